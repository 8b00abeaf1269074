import PyProof.Rows.All
import Wide.All
import OpenK.AllK
import Wide.FinOn
import HandS.ForMost
import HandS.IsInst
import HandS.Walk
import HandS.TupAny
import HandS.TupMul
import HandS.Style
import HandS.Wide
import HandS.Strs
import HandS.Zip
import HandS.Conv
import HandS.NoneIn
import HandS.Deep
import HandS.Flow
import KE.GoesEnum
import HandS.SetFor
import HandS.More
import HandS.Defaults
import HandS.Head0
import HandS.Head1
import HandS.Head2
import HandS.HeadEnd
import HandS.HeadHook1
import HandS.HeadHook2
import PySem.Challenge.RW_holetubs_k01_tubs_weather_beginnings_tol
import PyProof.Rows.ReprOcc
import PyProof.FitsInt
import PyProof.StrLaws
import KE.KStrOpen
set_option Elab.async false
set_option linter.all false
set_option maxRecDepth 100000
set_option maxHeartbeats 4000000
namespace Iv
open PySem PySem.Spec PyProof.Rows L2
/-! ### data, and where it stands -/
abbrev D := PyData
abbrev BSt := Option (Int × Int)
def kD : Key → D
  | .inl i => .int i
  | .inr x => .str x
mutual
inductive Rp (K : PySem.W.Frag) (H : Hp) : V → D → Prop
  | non : Rp K H .non .none
  | bl (b : Bool) : Rp K H (.bl b) (.bool b)
  | int (i : Int) : Rp K H (.int i) (.int i)
  | str (x : Str) : Rp K H (.str x) (.str x)
  | lst {a : Addr} {xs : List V} {ds : List D} : H a = some (.lst xs) → RpAll K H xs ds → Rp K H (.ref a) (.list ds)
  | tup {a : Addr} {xs : List V} {ds : List D} : SqT K H a xs → RpAll K H xs ds → Rp K H (.ref a) (.tuple ds)
  | dct {a : Addr} {kvs : List (Key × V)} {ds : List D} : H a = some (.dK kvs) → RpAll K H (kvs.map (·.2)) ds → Rp K H (.ref a) (.dict ((kvs.map fun p => kD p.1).zip ds))
inductive RpAll (K : PySem.W.Frag) (H : Hp) : List V → List D → Prop
  | nil : RpAll K H [] []
  | cons {v : V} {vs : List V} {d : D} {ds : List D} : Rp K H v d → RpAll K H vs ds → RpAll K H (v :: vs) (d :: ds)
end
section
variable {K : PySem.W.Frag} {H H' : Hp}
theorem sameT {a : Addr} {xs : List V} (e : Same H H') (h : SqT K H a xs) : SqT K H' a xs := by
  rcases h with h | h
  · rcases h with h | ⟨o, h⟩
    · exact .inl (.inl (e _ _ h))
    · exact .inl (.inr ⟨o, e _ _ h⟩)
  · exact .inr h
theorem Rp.mono (e : Same H H') {v : V} {d : D} (h : Rp K H v d) : Rp K H' v d := by
  refine Rp.rec (motive_1 := fun v d _ => Rp K H' v d) (motive_2 := fun vs ds _ => RpAll K H' vs ds) ?_ ?_ ?_ ?_ ?_ ?_ ?_ ?_ ?_ h
  · exact .non
  · exact fun b => .bl b
  · exact fun i => .int i
  · exact fun x => .str x
  · exact fun h1 _ ih => .lst (e _ _ h1) ih
  · exact fun h1 _ ih => .tup (sameT e h1) ih
  · exact fun h1 _ ih => .dct (e _ _ h1) ih
  · exact .nil
  · exact fun _ _ a b => .cons a b
theorem RpAll.mono (e : Same H H') : ∀ {vs : List V} {ds : List D}, RpAll K H vs ds → RpAll K H' vs ds
  | _, _, .nil => .nil
  | _, _, .cons a b => .cons (a.mono e) (b.mono e)
theorem RpAll.length : ∀ {vs : List V} {ds : List D}, RpAll K H vs ds → vs.length = ds.length
  | _, _, .nil => rfl
  | _, _, .cons _ b => by simp [b.length]
theorem RpAll.get : ∀ {vs : List V} {ds : List D} {i : Nat} {d : D}, RpAll K H vs ds → ds[i]? = some d → ∃ v, vs[i]? = some v ∧ Rp K H v d
  | _, _, _, _, .nil, e => by simp at e
  | _, _, 0, _, .cons a _, e => by simp at e; subst e; exact ⟨_, rfl, a⟩
  | _, _, i + 1, _, .cons _ b, e => by
    obtain ⟨u, h1, h2⟩ := RpAll.get (i := i) b (by simpa using e)
    exact ⟨u, by simpa using h1, h2⟩
theorem RpAll.append : ∀ {vs ws : List V} {ds es : List D}, RpAll K H vs ds → RpAll K H ws es → RpAll K H (vs ++ ws) (ds ++ es)
  | _, _, _, _, .nil, h => h
  | _, _, _, _, .cons a b, h => .cons a (b.append h)
theorem RpAll.take : ∀ {vs : List V} {ds : List D} (n : Nat), RpAll K H vs ds → RpAll K H (vs.take n) (ds.take n)
  | _, _, 0, _ => by simpa using .nil
  | _, _, n + 1, .nil => by simpa using .nil
  | _, _, n + 1, .cons a b => by simpa using .cons a (b.take n)
theorem RpAll.drop : ∀ {vs : List V} {ds : List D} (n : Nat), RpAll K H vs ds → RpAll K H (vs.drop n) (ds.drop n)
  | _, _, 0, h => by simpa using h
  | _, _, n + 1, .nil => by simpa using .nil
  | _, _, n + 1, .cons a b => by simpa using b.drop n
theorem RpAll.reverse {vs : List V} {ds : List D} (h : RpAll K H vs ds) : RpAll K H vs.reverse ds.reverse := by
  induction ds generalizing vs with
  | nil => cases h; exact .nil
  | cons d ds ih =>
    cases h with
    | cons a b =>
      simp only [List.reverse_cons]
      exact (ih b).append (.cons a .nil)
theorem RpAll.set : ∀ {vs : List V} {ds : List D} {v : V} {d : D} (i : Nat), RpAll K H vs ds → Rp K H v d → RpAll K H (vs.set i v) (ds.set i d)
  | _, _, _, _, _, .nil, _ => .nil
  | _, _, _, _, 0, .cons _ b, h => .cons h b
  | _, _, _, _, i + 1, .cons a b, h => .cons a (b.set i h)
theorem RpAll.rep {vs : List V} {ds : List D} (h : RpAll K H vs ds) : ∀ n : Nat, RpAll K H (List.replicate n vs).flatten (List.replicate n ds).flatten
  | 0 => .nil
  | n + 1 => by
    rw [List.replicate_succ, List.replicate_succ, List.flatten_cons, List.flatten_cons]
    exact h.append (h.rep n)
theorem RpAll.one {v : V} {d : D} (h : Rp K H v d) : RpAll K H [v] [d] := .cons h .nil
theorem RpAll.ints : ∀ {vs : List V} {ns : List Int}, RpAll K H vs (ns.map .int) → vs = ns.map V.int
  | [], [], _ => rfl
  | _, [], h => by cases h; rfl
  | _, n :: ns, h => by
    cases h with
    | cons a b => cases a; rw [RpAll.ints b]; rfl
theorem RpAll.bools : ∀ {vs : List V} {ns : List Bool}, RpAll K H vs (ns.map .bool) → vs = ns.map V.bl
  | _, [], h => by cases h; rfl
  | _, n :: ns, h => by
    cases h with
    | cons a b => cases a; rw [RpAll.bools b]; rfl
theorem RpAll.of_ints : ∀ (ns : List Int), RpAll K H (ns.map V.int) (ns.map .int)
  | [] => .nil
  | n :: ns => .cons (.int n) (RpAll.of_ints ns)
/-- to the library's reading, where no dict is within -/
theorem Rp.dp {v : V} {d : D} (h : Rp K H v d) : d.canLay0 = true → Dp K H v d := by
  refine Rp.rec (motive_1 := fun v d _ => d.canLay0 = true → Dp K H v d) (motive_2 := fun vs ds _ => PyData.canLayAll0 ds = true → DpAll K H vs ds) ?_ ?_ ?_ ?_ ?_ ?_ ?_ ?_ ?_ h
  · exact fun _ => .non
  · exact fun b _ => .bl b
  · exact fun i _ => .int i
  · exact fun x _ => .str x
  · exact fun h1 _ ih z => .lst (SqL.of h1) (ih (by simpa [PyData.canLay0] using z))
  · exact fun h1 _ ih z => .tup h1 (ih (by simpa [PyData.canLay0] using z))
  · exact fun _ _ _ z => by simp [PyData.canLay0] at z
  · exact fun _ => .nil
  · intro v vs d ds _ _ i1 i2 z
    have z' : d.canLay0 = true ∧ PyData.canLayAll0 ds = true := by simpa [PyData.canLayAll0] using z
    exact .cons (i1 z'.1) (i2 z'.2)
end
/-! ### what is owned is taken out -/
open Classical in
noncomputable def Fz (O : Addr → Prop) (H : Hp) : Hp := fun a => if O a then none else H a
theorem fz_out {O : Addr → Prop} {H : Hp} {a : Addr} (h : ¬ O a) : Fz O H a = H a := by unfold Fz; rw [if_neg h]
theorem fz_in {O : Addr → Prop} {H : Hp} {a : Addr} (h : O a) : Fz O H a = none := by unfold Fz; rw [if_pos h]
theorem fz_some {O : Addr → Prop} {H : Hp} {a : Addr} {o : HO} (h : Fz O H a = some o) : ¬ O a ∧ H a = some o := by
  by_cases q : O a
  · rw [fz_in q] at h; cases h
  · rw [fz_out q] at h; exact ⟨q, h⟩
theorem fz_same {O : Addr → Prop} {H : Hp} : Same (Fz O H) H := fun _ _ h => (fz_some h).2
theorem fz_mono {O O' : Addr → Prop} {H H' : Hp} (hO : ∀ a, O' a → O a) (h : ∀ a o, ¬ O a → H a = some o → H' a = some o) : Same (Fz O H) (Fz O' H') := fun a o e => by
  obtain ⟨n, e⟩ := fz_some e
  rw [fz_out (fun z => n (hO a z))]
  exact h a o n e
def orO (O : Addr → Prop) (p : Addr) : Addr → Prop := fun a => O a ∨ a = p
/-! ### the bag, what stays -/
def BagAt (β : Option Addr) (H : Hp) : BSt → Prop
  | none => β = none
  | some (g, s) => ∃ b, β = some b ∧ H b = some (.lst [.int g, .int s])
theorem BagAt.get {β : Option Addr} {H : Hp} {st : BSt} {b : Addr} (h : BagAt β H st) (e : β = some b) : ∃ g s, st = some (g, s) ∧ H b = some (.lst [.int g, .int s]) := by
  cases st with
  | none => have h : β = none := h; rw [h] at e; cases e
  | some p => obtain ⟨g, s⟩ := p; obtain ⟨c, e2, h⟩ := h; rw [e] at e2; cases e2; exact ⟨g, s, rfl, h⟩
theorem BagAt.mono {β : Option Addr} {H H' : Hp} {st : BSt} (h : BagAt β H st) (e : ∀ b o, β = some b → H b = some o → H' b = some o) : BagAt β H' st := by
  cases st with
  | none => exact h
  | some p => obtain ⟨g, s⟩ := p; obtain ⟨b, e2, h⟩ := h; exact ⟨b, e2, e b _ e2 h⟩
def SB (β : Option Addr) (H H' : Hp) : Prop := ∀ a o, β ≠ some a → H a = some o → H' a = some o
theorem SB.refl {β : Option Addr} {H : Hp} : SB β H H := fun _ _ _ h => h
theorem SB.trans {β : Option Addr} {H H1 H2 : Hp} (h1 : SB β H H1) (h2 : SB β H1 H2) : SB β H H2 := fun a o n e => h2 a o n (h1 a o n e)
theorem SB.laid {β : Option Addr} {H : Hp} {p : Addr} {o : HO} (h : H p = none) : SB β H (upd H p o) := fun a u n e => by
  rw [upd_ne (ne_of_none e h)]; exact e
/-- results and slots -/
inductive R where
  | fz (d : D) | ow (d : D) | bag | scr (ns : List Int)
def OwAt (K : PySem.W.Frag) (O : Addr → Prop) (H : Hp) (a : Addr) : D → Prop
  | .list ds => ∃ xs, H a = some (.lst xs) ∧ RpAll K (Fz O H) xs ds
  | .dict kds => ∃ kvs : List (Key × V), H a = some (.dK kvs) ∧ kds.map (·.1) = kvs.map (fun p => kD p.1) ∧ RpAll K (Fz O H) (kvs.map (·.2)) (kds.map (·.2))
  | _ => False
def ScAt (K : PySem.W.Frag) (β : Option Addr) (H : Hp) (a : Addr) (ns : List Int) : Prop := (β ≠ some a ∧ ∃ o, H a = some (.frz o (.lst (ns.map V.int)))) ∨ ∀ H', SqL K H' a (ns.map V.int)
theorem ScAt.mono {K : PySem.W.Frag} {β : Option Addr} {H H' : Hp} {a : Addr} {ns : List Int} (h : ScAt K β H a ns) (e : SB β H H') : ScAt K β H' a ns :=
  h.elim (fun ⟨n, o, h⟩ => .inl ⟨n, o, e _ _ n h⟩) .inr
theorem ScAt.sq {K : PySem.W.Frag} {β : Option Addr} {H : Hp} {a : Addr} {ns : List Int} (h : ScAt K β H a ns) : SqL K H a (ns.map V.int) := h.elim (fun ⟨_, o, h⟩ => .inl (.inr ⟨o, h⟩)) fun h => h H
def SlAt (K : PySem.W.Frag) (β : Option Addr) (O : Addr → Prop) (H : Hp) (v : V) : R → Prop
  | .fz d => Rp K (Fz O H) v d
  | .ow d => ∃ a, v = .ref a ∧ O a ∧ β ≠ some a ∧ OwAt K O H a d
  | .bag => ∃ b, β = some b ∧ v = .ref b
  | .scr ns => ∃ a, v = .ref a ∧ ScAt K β H a ns
/-- an expression's result: H ahead, H' behind -/
def ResAt (K : PySem.W.Frag) (β : Option Addr) (O : Addr → Prop) (H H' : Hp) (v : V) : R → Prop
  | .fz d => Rp K (Fz O H') v d
  | .ow d => ∃ p, v = .ref p ∧ H p = none ∧ β ≠ some p ∧ OwAt K (orO O p) H' p d
  | .bag => ∃ b, β = some b ∧ v = .ref b
  | .scr ns => ∃ a, v = .ref a ∧ ScAt K β H' a ns
abbrev Env' := List (Option R)
structure Rel (K : PySem.W.Frag) (β : Option Addr) (Oo : Addr → Prop) (H0 : Hp) (O : Addr → Prop) (σ : L2.St) (H : Hp) (env : Env') (st : BSt) : Prop where
  sl : ∀ (i : Nat) r, env[i]? = some (some r) → ∃ v, σ[i]? = some (some v) ∧ SlAt K β O H v r
  ne : ∀ (i j : Nat) d e a, i ≠ j → env[i]? = some (some (.ow d)) → env[j]? = some (some (.ow e)) → σ[i]? = some (some (.ref a)) → σ[j]? ≠ some (some (.ref a))
  fr : ∀ (i : Nat) d a, env[i]? = some (some (.ow d)) → σ[i]? = some (some (.ref a)) → H0 a = none
  len : env.length = σ.length
  sub : ∀ a, Oo a → O a
  dom : ∀ a, O a → H a ≠ none
  dom0 : ∀ a, Oo a → H0 a ≠ none
  sb : SB β H0 H
  bag : BagAt β H st
  bO : ∀ b, β = some b → Oo b
section
variable {K : PySem.W.Frag} {β : Option Addr} {Oo O : Addr → Prop} {H0 H H' : Hp} {σ : L2.St} {env : Env'} {st st' : BSt}
theorem Rel.fzm (r : Rel K β Oo H0 O σ H env st) (h : SB β H H') : Same (Fz O H) (Fz O H') :=
  fz_mono (fun _ z => z) fun a o n e => h a o (fun z => n (r.sub _ (r.bO a z))) e
theorem OwAt.mono {O O' : Addr → Prop} {H H' : Hp} {a : Addr} {d : D} (h : OwAt K O H a d) (e : Same (Fz O H) (Fz O' H')) (ha : ∀ o, H a = some o → H' a = some o) : OwAt K O' H' a d := by
  cases d with
  | list ds => obtain ⟨xs, h1, h2⟩ := h; exact ⟨xs, ha _ h1, h2.mono e⟩
  | dict kds => obtain ⟨kvs, h1, h2, h3⟩ := h; exact ⟨kvs, ha _ h1, h2, h3.mono e⟩
  | none => exact h
  | bool _ => exact h
  | int _ => exact h
  | str _ => exact h
  | tuple _ => exact h
theorem SlAt.mono {O O' : Addr → Prop} {H H' : Hp} {v : V} {r : R} (h : SlAt K β O H v r) (e : Same (Fz O H) (Fz O' H')) (hb : SB β H H') (ho : ∀ a d, r = .ow d → v = .ref a → O a → O' a) : SlAt K β O' H' v r := by
  cases r with
  | fz d => exact Rp.mono e h
  | ow d => obtain ⟨a, h1, h2, h3, h4⟩ := h; exact ⟨a, h1, ho a d rfl h1 h2, h3, h4.mono e fun o => hb a o h3⟩
  | bag => exact h
  | scr ns => obtain ⟨a, h1, h3⟩ := h; exact ⟨a, h1, h3.mono hb⟩
/-- behind an expression -/
theorem Rel.step (r : Rel K β Oo H0 O σ H env st) (h : SB β H H') (hb : BagAt β H' st') : Rel K β Oo H0 O σ H' env st' where
  sl := fun i x e => let ⟨v, h1, h2⟩ := r.sl i x e; ⟨v, h1, h2.mono (r.fzm h) h fun _ _ _ _ z => z⟩
  ne := r.ne
  fr := r.fr
  len := r.len
  sub := r.sub
  dom := fun a ha => by
    by_cases q : β = some a
    · obtain ⟨g, s, _, e⟩ := hb.get q; rw [e]; simp
    · cases e : H a with
      | none => exact absurd e (r.dom a ha)
      | some o => rw [h a o q e]; simp
  dom0 := r.dom0
  sb := r.sb.trans h
  bag := hb
  bO := r.bO
end
end Iv

set_option maxHeartbeats 4000000
namespace Iv
open PySem PySem.Spec PyProof.Rows L2
open PySem.AutoSeq1 (wpAny_loadPart')
/-! ### enumerate(tuple) -/
abbrev tIt (l : Addr) : Obj := { cls := .type "tuple_iterator", data := .fields #[.ref l, .int 0 0] }
abbrev eIt (i : Addr) : Obj := { cls := .type "enumerate", data := .fields #[.none, .bool false, .ref i, rawInt 0, .none, .none] }
theorem enumNewT (l : Addr) (vs : Array Value) (m : Nat) (dd : Option Addr) (ss : Array (Option Value)) :
    Meets (Builtin.«enumerate.__new__» ⟨[.type "enumerate", .ref l], []⟩) (fun _ R s => s.heap.get? l = some { cls := .type "tuple", dict := dd, data := .seq vs m, slots := ss } ∧
      R (.ok (.ret (.ref (s.heap.push (tIt l)).objs.size))) { s with heap := (s.heap.push (tIt l)).push (eIt s.heap.objs.size) }) :=
  .of_wp fun prog w A R s z => by
    obtain ⟨hp, gg, dr, tt, oo⟩ := s
    obtain ⟨q1, q2⟩ := z
    have q0 := sub_enumerate
    have q3 : Heap.IsTuple (Shared.heap ⟨hp, gg, dr, tt, oo⟩) l vs := ⟨_, q1, rfl, m, rfl⟩
    wp_walk using wpAny_loadPart' q1
    refine wpAny_stack_any fun sk => wpAny_pure ?_
    split
    · rename_i cc _ _ _ _ _
      cases (cc == Value.type "enumerate") <;> (wp_walk using wpAny_loadPart' q1, wpAny_pyIter_tuple q3; exact ⟨_, rfl, q2⟩)
    · wp_walk using wpAny_loadPart' q1, wpAny_pyIter_tuple q3
      exact ⟨_, rfl, q2⟩
theorem enumCallT {prog : Program} {w : World} {A : Around} {E : Value → Shared → Prop} {s : Shared} {l : Addr} {vs : Array Value} {Q : Value → Shared → Prop} (hT : s.heap.IsTuple l vs)
    (k : ∀ h', IsEnum h' (s.heap.objs.size + 1) s.heap.objs.size 0 .none → h'.IsTupleIter s.heap.objs.size l 0 → (∀ b o, s.heap.get? b = some o → h'.get? b = some o) → Q (.ref (s.heap.objs.size + 1)) { s with heap := h' }) :
    wpAny (model prog w) A (call (.type "enumerate") [.ref l]) Q E s := by
  obtain ⟨⟨c, dd, dt, ss⟩, g1, g2, m, g3⟩ := hT
  dsimp only at g2 g3
  subst g2; subst g3
  have sz : (s.heap.push (tIt l)).objs.size = s.heap.objs.size + 1 := Heap.size_push ..
  have en : IsEnum ((s.heap.push (tIt l)).push (eIt s.heap.objs.size)) (s.heap.objs.size + 1) s.heap.objs.size 0 .none := by
    have z := Heap.get?_push_size (s.heap.push (tIt l)) (o := eIt s.heap.objs.size) rfl
    rw [sz] at z; exact z
  refine callType_new F.called_enumerate (by decide) (F.typeCall_enumerate_1 _) (F.newCall_enumerate_1 _) (fun ob => F.args_object_init_2 ob _) F.entry_enumerate_new (enumNewT l vs m dd ss) ⟨g1, ?_⟩
  show _ ∧ _
  rw [sz]
  exact ⟨⟨_, en, rfl⟩, k _ en ⟨_, Heap.get?_push_of_some _ (Heap.get?_push_size _ rfl), rfl, rfl⟩ fun b o z => Heap.get?_push_of_some _ (Heap.get?_push_of_some _ z)⟩
def IteT (K : PySem.W.Frag) (a : Addr) : It :=
  ⟨fun i H => ∃ (xs : List V) (x : V), SqT K H a xs ∧ xs[i]? = some x, fun i H v H' => ∃ T x, v = .ref T ∧ H T = none ∧ H' = upd H T (.tup [.int (i : Nat), x]) ∧ ∀ xs, SqT K H a xs → xs[i]? = some x, fun i H => ∃ xs : List V, SqT K H a xs ∧ xs.length = i⟩
theorem enumTurnT {P : Program} {w : World} {K : PySem.W.Frag} {elts : List Expr} {kk : Nat} {tpos : Pos} (a e it : Addr) :
    Turn P w K (.Tuple elts kk tpos) (IteT K a) [e, it] e (fun i h => (∃ old, IsEnum h e it ((i : Nat) : Int) old) ∧ h.IsTupleIter it a i ∧ e ≠ it ∧ a ≠ it ∧ a ≠ e) where
  mem := List.mem_cons_self
  obj := fun i h z b hb => by
    obtain ⟨⟨old, z1⟩, ⟨o, z2, z3, z4⟩, _⟩ := z
    rcases List.mem_cons.mp hb with rfl | hb
    · exact ⟨_, z1, fun v q => nomatch q⟩
    · cases List.mem_singleton.mp hb; exact ⟨o, z2, fun v q => by rw [z4] at q; cases q⟩
  keep := fun i h h' z k => by
    obtain ⟨⟨old, z1⟩, z2, z3⟩ := z
    exact ⟨⟨old, k e List.mem_cons_self _ z1⟩, z2.at fun o q => k it (List.mem_cons_of_mem _ List.mem_cons_self) o q, z3⟩
  item := by
    intro X rfl rfl rfl calm i pins s σ H E I hf z hg
    obtain ⟨⟨old, z1⟩, z2, ne, n2, n3⟩ := z
    obtain ⟨xs, x, hq, hx⟩ := hg
    obtain ⟨its, rv, ht, hz⟩ := I.tuple hq
    obtain ⟨u, hu, ru⟩ := rv.get hx
    have l1 : e < s.heap.objs.size := Heap.lt_size z1
    have l2 : it < s.heap.objs.size := let ⟨_, y, _⟩ := z2; Heap.lt_size y
    have hn : its.toArray.size = xs.length := by rw [List.size_toArray]; exact rv.length.symm
    have hlt : i < its.toArray.size := by rw [hn]; exact (List.getElem?_eq_some_iff.mp hx).1
    have ii : (((i : Nat) : Int)) = ((i : Nat) : Int) := rfl
    refine wpAny_pyNext_enum_itemD (Draws.tuple (by simpa using I.ok.hd calm) it a n2 its.toArray) z1 ⟨z2, ht⟩ hlt ne (by simp [ne, Ne.symm n3]) fun x' h' tk ex ho hst hT hsz hk => ?_
    have exu : x' = u := by
      have h1 : its.toArray[i]? = some u := by simpa using hu
      rw [h1] at ex; exact (Option.some.inj ex).symm
    subst exu
    refine ⟨_, rfl, wpAny_letOwnedTupleGo_enum (s := { s with heap := h', toks := tk + 1 }) ho fun h2 he2 sb => ?_⟩
    have hT2 : h2.get? s.heap.objs.size = some { cls := .type "tuple", data := .seq #[.int i tk, x'] } := (sb.2 _ (Nat.ne_of_gt l1)).trans hT
    have nw : ObjOk X.prog X.w (upd H s.heap.objs.size (.tup [.int (i : Nat), x])) h2 s.heap.objs.size (.tup [.int (i : Nat), x]) :=
      ⟨by show 2 ≤ sizeLine; decide, [.int i tk, x'], .cons ⟨_, rfl⟩ (.cons ru .nil), ⟨_, hT2, rfl, _, rfl⟩⟩
    have I2 : Inv X pins σ (upd H s.heap.objs.size (.tup [.int (i : Nat), x])) { s with heap := h2, toks := tk + 1 } :=
      I.turnedNew (ch := [e, it]) (fun b ob hb q => (sb.2 b (fun y => hb (by simp [y]))).trans (hk b ob (fun y => hb (by simp [y])) (fun y => hb (by simp [y])) q)) hf (Nat.le_refl _) nw
    refine ⟨.ref s.heap.objs.size, _, I2, rfl, ⟨_, x, rfl, I.hok.fresh (Nat.le_refl _), rfl, fun ys hy => by rw [I.tuple_inj hy hq]; exact hx⟩, ⟨⟨x', ?_⟩, hst.1.at fun o q => (sb.2 it (Ne.symm ne)).trans q, ne, n2, n3⟩, fun b hb => ?_⟩
    · have e1 : ((i + 1 : Nat) : Int) = (i : Int) + 1 := by omega
      rw [e1]; exact he2
    · have lb : b < s.heap.objs.size := by
        rcases List.mem_cons.mp hb with rfl | hb
        · exact l1
        · cases List.mem_singleton.mp hb; exact l2
      rw [upd_ne (Nat.ne_of_lt lb)]
      exact (hf b hb).1
  done := by
    intro X rfl rfl rfl calm i pins s σ H E I hf z hg
    obtain ⟨⟨old, z1⟩, z2, ne, n2, n3⟩ := z
    obtain ⟨xs, hq, hx⟩ := hg
    obtain ⟨its, rv, ht, hz⟩ := I.tuple hq
    obtain ⟨f0, f1, f2, f3, f4, f5⟩ := hf it (List.mem_cons_of_mem _ List.mem_cons_self)
    have hn : its.toArray.size = i := by rw [List.size_toArray, ← rv.length]; exact hx
    subst hn
    exact wpAny_pyNext_enum_endD (Draws.tuple (by simpa using I.ok.hd calm) it a n2 its.toArray) z1 ⟨z2, ht⟩ fun h' eb => ⟨rfl, I.turned (t' := s.toks) (fun b o hb q => eb b o hb q) f0 f1 f3 f4 f5⟩
  self := fun A i s Q E z k => let ⟨⟨_, z1⟩, _⟩ := z; wpAny_pyIter_enum z1 k
def iEnumT (K : PySem.W.Frag) (ta : TA) : TI := fun σ H R => ta σ H fun vs H1 => ∃ a xs, vs = [.ref a] ∧ SqT K H1 a xs ∧ R (IteT K a) H1
theorem pi_enumT {X : Cx} {e : Expr} {ta : TA} {p pos tpos : Pos} {elts : List Expr} {kk : Nat} (hg : Gl X "enumerate") (hm : X.mg "enumerate" = none) (ha : PA X [e] ta) (hs : starEach [e] X.env = [(false, eval e X.env)]) :
    PI X (.Tuple elts kk tpos) (.Call (.Name "enumerate" p) [e] [] pos) (iEnumT X.K ta) := by
  refine ⟨fun pins s σ H R I z => ?_⟩
  refine Call_ (ld_blt I hg hm boot_enumerate (PyProof.Rows.callWith_type1 (thn (ha.run pos pins s σ H _ I z) fun us s1 ⟨vs, H1, I1, r1, q1⟩ => ?_) hs rfl))
  obtain ⟨a, xs, rfl, hq, q⟩ := q1
  have eu : us = [.ref a] := Vals.ref1 r1
  subst eu
  obtain ⟨its, rv, ht, _⟩ := I1.tuple hq
  have la : a < s1.heap.objs.size := let ⟨_, y, _⟩ := ht; Heap.lt_size y
  refine enumCallT ht fun h' he hit hk => wpAny_pyIter_enum he ?_
  have I2 : Inv X pins σ H1 { s1 with heap := h' } := I1.kept (t' := s1.toks) hk
  refine ⟨s1.heap.objs.size + 1, [s1.heap.objs.size + 1, s1.heap.objs.size], _, _, H1, rfl, I2, enumTurnT a (s1.heap.objs.size + 1) s1.heap.objs.size, ⟨⟨.none, he⟩, hit, Nat.succ_ne_self _, Nat.ne_of_lt la, Nat.ne_of_lt (Nat.lt_succ_of_lt la)⟩, fun b hb => ?_, q⟩
  have lb : s1.heap.objs.size ≤ b := by
    rcases List.mem_cons.mp hb with rfl | hb
    · exact Nat.le_succ _
    · cases List.mem_singleton.mp hb; exact Nat.le_refl _
  exact I1.fpOk lb (I1.hok.fresh lb)
end Iv

set_option maxHeartbeats 4000000
namespace Iv
open PySem PySem.Spec PyProof.Rows L2
/-! ### set(list of ints), sorted(set(..)) -/
abbrev sNew (w : World) : Obj := { cls := .type "set", dict := none, data := .set #[] 0 (.fresh 0 0 (!w.params.followText "set-order")) }
section
variable {P : Program} {w : World} {A : Around} {E : Value → Shared → Prop} {s : Shared}
theorem setLst {l : Addr} {vs : Array Value} (ns : List Int) {Q : Value → Shared → Prop} (hh : A.handled = none) (hl : s.heap.IsList l vs) (hv : IntsAre vs.toList ns) (hb : ns.length + 1 < scanBound)
    (k : ∀ (h' : Heap) (tk c : Nat), SetR w h' s.heap.objs.size (fun j => decide (j ∈ ns)) c → c ≤ ns.length → (∀ b o, s.heap.get? b = some o → h'.get? b = some o) → Q (.ref s.heap.objs.size) { s with heap := h', toks := tk }) :
    wpAny (model P w) A (call (.type "set") [.ref l]) Q E s := by
  have sz : vs.size = ns.length := by
    have z := IntsAre.length hv
    rwa [Array.length_toList] at z
  obtain ⟨cm, tm, m1⟩ := F.called_set.mro
  have m2 := F.called_set.made
  have m3 := F.called_set.sub
  refine wpAny_call (codeAny_of_tree ?_)
  show wpAny _ _ (callAny (.type "set") _) _ _ _
  refine wpAny_pure ⟨Code.quiet_builtin _ (by decide +kernel), codeAny_builtin F.entry_type_call ?_⟩
  rw [Around.under_plain (weight_type_call_type "set" [.ref l] []) rfl]
  have m4 := F.called_set.notType
  have m5 := F.called_set.canCreate
  have m6 := F.typeCall_set_1 (.ref l)
  repeat (any_goals (first | assumption | wp_step))
  refine codeAny_mono (code_set_led1 (.ref l) (E := E) (Q₁ := fun ob s1 => ob = .ref s.heap.objs.size ∧ s1 = { s with heap := s.heap.push (sNew w) }) ⟨rfl, rfl⟩) fun r s1 hr => ?_
  cases r with
  | error e => exact hr
  | ok fl =>
    cases fl with
    | ret ob =>
      obtain ⟨rfl, rfl⟩ := hr
      have hS : (s.heap.push (sNew w)).get? s.heap.objs.size = some (sNew w) := Heap.get?_push_size _ rfl
      have hT : Shared.TypeIs { s with heap := s.heap.push (sNew w) } (.ref s.heap.objs.size) "set" := ⟨_, hS, rfl⟩
      have m7 := F.called_set.init.lookup
      have m8 := F.called_set.init.bind (.ref s.heap.objs.size)
      repeat (any_goals (first | assumption | wp_step))
      refine codeAny_mono (codeAny_call_builtin (R := wants (fun r s2 => r = .none ∧ ∃ h' tk c, s2 = { s with heap := h', toks := tk } ∧ SetR w h' s.heap.objs.size (fun j => decide (j ∈ ns)) c ∧ c ≤ ns.length ∧ (∀ b o, s.heap.get? b = some o → h'.get? b = some o)) E)
        F.called_set.init.plain F.entry_set_init (check_set_init_1 hT ?_)) fun r2 s2 hr2 => ?_
      · obtain ⟨⟨oc, od, oda, osl⟩, g1, g2, gn, g3⟩ := hl
        dsimp only at g2 g3
        subst g2; subst g3
        have g1' : (s.heap.push (sNew w)).get? l = some { cls := .type "list", dict := od, data := .seq vs gn, slots := osl } := Heap.get?_push_of_some _ g1
        have m9 := F.sub_list_set
        have m10 := F.sub_list_frozenset
        have m11 : (Value.type "list" == Value.type "dict") = false := by decide
        have hl1 : (s.heap.push (sNew w)).IsList l vs := ⟨_, g1', rfl, gn, rfl⟩
        unfold Builtin.«set.__init__» noKeywords Builtin.Frozenset.updateFrom
        generalize hPI : pyIter = PI
        wp_walk
        subst hPI
        refine wpAny_pyIter_list hl1 ?_
        refine wpAny_bind (wpAny_runValue ?_)
        have lS : l < s.heap.objs.size := Heap.lt_size g1
        have h3 : A.in1.in1.in1.handled = none := by simp [hh]
        have zz : (s.heap.push (sNew w)).objs.size = s.heap.objs.size + 1 := Heap.size_push ..
        have nI : l ≠ (s.heap.push (sNew w)).objs.size := by rw [zz]; exact Nat.ne_of_lt (Nat.lt_succ_of_lt lS)
        have nS : s.heap.objs.size ∉ [(s.heap.push (sNew w)).objs.size, l] := by
          rw [zz]
          intro z
          rcases List.mem_cons.mp z with z | z
          · omega
          · exact Nat.ne_of_gt lS (List.mem_singleton.mp z)
        have val : ∀ (i : Nat) (v : Value), vs[i]? = some v → ∃ k t, ns[i]? = some k ∧ v = .int k t := fun i v e => by
          have hi : i < ns.length := by rw [← sz]; exact (Array.getElem?_eq_some_iff.mp e).1
          obtain ⟨t, et⟩ := PyProof.Rows.IntsAre.int_at hv i v (by rw [Array.getElem?_toList]; exact e)
          exact ⟨ns[i], t, List.getElem?_eq_getElem hi, by rw [et, List.getD_eq_getElem?_getD, List.getElem?_eq_getElem hi] <;> rfl⟩
        refine set_update_ints ((Walks.list h3 _ l nI vs).toS) s.heap.objs.size nS ns sz hb val (vs.size - 0) 0 _ (by omega) (Nat.zero_le _) ⟨⟨_, Heap.get?_push_size _ rfl, rfl, rfl⟩, (hl1.push _)⟩ ?zA ?zB
        case zA => exact ⟨0, Nat.le_refl 0, setR_new_at (Heap.get?_push_of_some _ hS)⟩
        case zB =>
          intro s' c' mv cc hS'
          obtain ⟨h', gg, dr, tt, oo⟩ := s'
          have eg : gg = s.gens := mv.gens
          have ed : dr = s.drawn := mv.drawn
          have eo : oo = s.os := mv.os
          subst eg; subst ed; subst eo
          show wpAny _ _ _ _ _ _
          refine wpAny_pure ?_
          show wpAny _ _ (ret Value.none) _ _ _
          rw [sz] at cc
          refine wpAny_pure ⟨rfl, h', tt, c', rfl, hS', cc, fun b o e => ?_⟩
          have lb : b < s.heap.objs.size := Heap.lt_size e
          refine mv.heap b o (fun z => ?_) (Heap.get?_push_of_some _ (Heap.get?_push_of_some _ e))
          rcases List.mem_cons.mp z with z | z
          · exact Nat.ne_of_lt lb z
          · exact Nat.ne_of_lt (Nat.lt_succ_of_lt lb) ((List.mem_singleton.mp z).trans zz)
      · cases r2 with
        | error e => exact hr2
        | ok fl2 =>
          cases fl2 with
          | ret r =>
            obtain ⟨rfl, h', tk, c', rfl, y1, y2, y3⟩ := hr2
            repeat (any_goals (first | assumption | wp_step))
            exact k _ _ _ y1 y2 y3
          | _ => exact hr2.elim
    | _ => exact hr.elim
end
/-- set(xs) of ints -/
def rSetL (K : PySem.W.Frag) (w : World) : List V → Hp → VK → Prop := fun xs H Q => ∃ (l : Addr) (ns : List Int), xs = [V.ref l] ∧ SqL K H l (ns.map V.int) ∧ ns.length < 64 ∧
  ∀ p c, H p = none → c ≤ ns.length → Q (.ref p) (upd H p (SetO w p (fun j => decide (j ∈ ns)) c))
theorem cr_setL {X : Cx} (hc : X.calm = true) : CallR X (.type "set") (rSetL X.K X.w) := by
  intro pins s σ H xs us Q I r z
  obtain ⟨l, ns, rfl, hs, h64, q⟩ := z
  rw [Vals.ref1 r]
  obtain ⟨its, rv, pl, hz⟩ := I.list hs
  refine setLst ns (I.ok.hd hc) pl.isList (by simpa using rv.ints) (by unfold scanBound; omega) fun h' tk c R hcl hk => ?_
  exact ⟨.ref s.heap.objs.size, _, I.laid (t' := tk) (fun b u e => hk b u e) (Nat.le_refl _) (setO_new R), rfl, q _ c (I.hok.fresh (Nat.le_refl _)) hcl⟩
end Iv

set_option maxHeartbeats 4000000
namespace Iv
open PySem PySem.Spec PyProof.Rows L2
/-! ### t[::-1] of a tuple -/
theorem adjRev (n : Nat) : Builtin.Slice.sliceAdjust none none (-1) (n : Int) = ((n : Int) - 1, -1) := by
  unfold Builtin.Slice.sliceAdjust
  simp
theorem plcRev (n : Nat) : Builtin.Slice.slicePlaces ((n : Int) - 1) (-1) (-1) = n := by
  unfold Builtin.Slice.slicePlaces
  have h1 : ¬ ((-1 : Int) > 0) := by omega
  simp only [h1, if_false]
  split <;> simp <;> omega
theorem fm_congr {α γ : Type} {f g : α → Option γ} : ∀ {l : List α}, (∀ x ∈ l, f x = g x) → l.filterMap f = l.filterMap g
  | [], _ => rfl
  | x :: l, h => by
    rw [List.filterMap_cons, List.filterMap_cons, h x List.mem_cons_self, fm_congr fun y hy => h y (List.mem_cons_of_mem _ hy)]
theorem pickRev (xs : List Value) : ((List.range xs.length).filterMap fun (m : Nat) => xs.toArray[(((xs.length : Int) - 1) + (m : Int) * (-1)).toNat]?) = xs.reverse := by
  apply List.ext_getElem?
  intro j
  have e : ((List.range xs.length).filterMap fun (m : Nat) => xs.toArray[(((xs.length : Int) - 1) + (m : Int) * (-1)).toNat]?) = (List.range xs.length).map fun m => xs.reverse.getD m default := by
    rw [← List.filterMap_eq_map]
    refine fm_congr fun m hm => ?_
    have hm : m < xs.length := List.mem_range.mp hm
    have z : (((xs.length : Int) - 1) + (m : Int) * (-1)).toNat = xs.length - 1 - m := by omega
    rw [z]
    simp [List.getD_eq_getElem?_getD, List.getElem?_reverse hm]
    rw [List.getElem?_eq_getElem (by omega)]
    rfl
  rw [e, List.getElem?_map]
  by_cases hj : j < xs.length
  · rw [List.getElem?_range hj, List.getElem?_eq_getElem (by simpa using hj)]
    simp [List.getD_eq_getElem?_getD, hj]
  · rw [List.getElem?_eq_none (by simpa using hj), List.getElem?_eq_none (by simpa using hj)]; rfl
section
variable {prog : Program} {w : World} {A : Around} {E : Value → Shared → Prop} {s : Shared}
theorem slRev {sl : Addr} {vs : Value} {n : Nat} {Q : Int × Int × Nat → Shared → Prop} (hs : s.heap.IsSliceOf sl .none .none vs) (ps : IsPart vs (some (-1))) (k : Q ((n : Int) - 1, -1, n) s) : wpAny (model prog w) A (Builtin.Slice.sliceApplied (.ref sl) (pure (n : Int))) Q E s := by
  obtain ⟨o, g1, g2, g3⟩ := id hs
  unfold Builtin.Slice.sliceApplied Builtin.Slice.sliceFields
  refine wpAny_bind (wpAny_bind (wpAny_field g1 g3 (x := .none) rfl (wpAny_bind (wpAny_field g1 g3 (x := .none) rfl (wpAny_bind (wpAny_field g1 g3 (x := vs) rfl (wpAny_pure ?_)))))))
  refine wpAny_bind (HT.slicePart_ ps ?_)
  show wpAny _ _ (if ((-1 : Int) == 0) = true then _ else _) _ _ s
  rw [if_neg (by decide)]
  refine wpAny_bind (HT.slicePart_ .none (wpAny_bind (HT.slicePart_ .none (wpAny_bind (wpAny_pure ?_)))))
  show wpAny _ _ (match Builtin.Slice.sliceAdjust none none (-1) (n : Int) with | (lo, hi) => pure (lo, (-1 : Int), Builtin.Slice.slicePlaces lo hi (-1))) _ _ s
  rw [adjRev n]
  show wpAny _ _ (pure ((n : Int) - 1, (-1 : Int), Builtin.Slice.slicePlaces ((n : Int) - 1) (-1) (-1))) _ _ s
  rw [plcRev]
  exact wpAny_pure k
theorem getRev {t sl : Addr} {its : List Value} {vs : Value} {Q : Value → Shared → Prop} (ht : IsTup s.heap t its.toArray) (hs : s.heap.IsSliceOf sl .none .none vs) (ps : IsPart vs (some (-1)))
    (k : Q (.ref s.heap.objs.size) { s with heap := s.heap.push { cls := .type "tuple", data := .seq its.reverse.toArray } }) (hz : its.length ≤ sizeLine) : wpAny (model prog w) A (getItem (.ref t) (.ref sl)) Q E s := by
  have htk : sizeOk (.seq its.reverse.toArray) := by
    show its.reverse.toArray.size ≤ sizeLine
    simpa using hz
  obtain ⟨o, g1, g2, g3⟩ := id hs
  have hT : s.TypeIs (.ref sl) "slice" := ⟨o, g1, g2⟩
  unfold getItem
  try with_reducible refine wpAny_holding ?_
  first | refine wpAny_bind (wpAny_pure ?_) | skip
  refine wpAny_bind (wpAny_sequenceKey ht.typeIs (by decide) ?_)
  refine wpAny_bind (wpAny_callSpecial?_slot (name := Str.ofString "__getitem__") ht.typeIs PyProof.Rows.slot_tuple_getitem (wpAny_call_entry PyProof.Rows.slot_tuple_getitem ht.typeIs entry_tuple_getitem ?_ (args_tuple_getitem _ _)))
  show wpAny _ _ (Builtin.Tuple.tupleItemsOf (.ref t) >>= _) _ _ s
  refine wpAny_bind (tupleItemsOf_ ht ?_)
  refine wpAny_bind (wpAny_typeOf hT ?_)
  rw [if_pos (by decide)]
  refine wpAny_bind (slRev (n := its.toArray.size) hs ps ?_)
  have hn : ¬ ((((its.toArray.size : Int) - 1) == 0 && (-1 : Int) == 1 && its.toArray.size == its.toArray.size) = true) := by simp
  show wpAny _ _ (if (((its.toArray.size : Int) - 1) == 0 && (-1 : Int) == 1 && its.toArray.size == its.toArray.size) = true then _ else _) _ _ s
  rw [if_neg hn]
  rw [List.size_toArray, pickRev]
  first
    | exact wpAny_bind (m := Builtin.Tuple.tupleExact _) (wpAny_newObj_type (wpAny_pure ⟨_, rfl, wpAny_pure k⟩) htk)
    | exact wpAny_bind (m := Builtin.Tuple.tupleExact _) (wpAny_newObj_type (wpAny_bind (wpAny_pure (wpAny_pure ⟨_, rfl, wpAny_pure k⟩))) htk)
    | exact wpAny_bind (wpAny_bind (m := Builtin.Tuple.tupleExact _) (wpAny_newObj_type (wpAny_pure (wpAny_pure ⟨_, rfl, wpAny_pure k⟩)) htk))
    | exact wpAny_bind (wpAny_bind (m := Builtin.Tuple.tupleExact _) (wpAny_newObj_type (wpAny_pure ⟨_, rfl, wpAny_pure k⟩) htk))
end
def tRevT (K : PySem.W.Frag) (te : TE) : TE := fun σ H Q => te σ H fun x H1 => ∃ a xs, x = .ref a ∧ SqT K H1 a xs ∧ ∀ p, H1 p = none → Q (.ref p) (upd H1 p (.tup xs.reverse))
theorem pe_revT {X : Cx} {e : Expr} {te : TE} {k : Nat} {p1 p2 p3 pos : Pos} (he : PE X e te) : PE X (.Subscript e (.Slice none none (some (.UnaryOp .USub (.Constant (.int 1) k p1) p2)) p3) pos) (tRevT X.K te) := by
  refine ⟨fun pins s σ H Q I z => ?_⟩
  refine Subscript_ (thn (he.run pins s σ H _ I z) fun v s1 ⟨x, H1, I1, r1, a, xs, ex, hx, q⟩ => ?_)
  subst ex
  cases r1
  have pm : PO X (some (.UnaryOp .USub (.Constant (.int 1) k p1) p2)) (tPart (tUn (rU fun i => .int (-i)) (tC (.int 1)))) := po_some (pe_un un_neg pe_int)
  refine wpAny_Slice (thn (po_none.run pins s1 σ H1 (fun o H2 => o = none ∧ H2 = H1) I1 ⟨rfl, rfl⟩) fun vl s2 ⟨l, H2, I2, pl, el, e2⟩ => ?_)
  subst el e2
  refine thn (po_none.run pins s2 σ H2 (fun o H3 => o = none ∧ H3 = H2) I2 ⟨rfl, rfl⟩) fun vu s3 ⟨u, H3, I3, pu, eu, e3⟩ => ?_
  subst eu e3
  refine thn (pm.run pins s3 σ H3 (fun o H4 => o = some (-1) ∧ H4 = H3) I3 ⟨1, rfl, -1, rfl, rfl, rfl⟩) fun vs s4 ⟨o, H4, I4, ps, eo, e4⟩ => ?_
  subst eo e4
  cases pl
  cases pu
  have I5 : Inv X pins σ H4 { s4 with heap := s4.heap.push { cls := .type "slice", data := .fields #[.none, .none, vs] } } := I4.kept (t' := s4.toks) fun b ob y => Heap.get?_push_of_some _ y
  obtain ⟨its, r, ht, hz⟩ := I5.tuple hx
  show wpAny (model X.prog X.w) X.A (subscriptTail e (.Slice none none (some (.UnaryOp .USub (.Constant (.int 1) k p1) p2)) p3) (.ref a) (.ref s4.heap.objs.size)) (EP X pins σ Q) X.xe _
  refine tail_any (ops := [.ref a, .ref s4.heap.objs.size]) ht.typeIs (PyProof.Rows.slot_tuple_getitem.lookup) ?_ (by with_unfolding_all rfl)
  refine getRev ht (Heap.IsSliceOf.new _ .none .none vs) ps ?_ (by rw [← r.length]; exact hz)
  exact ⟨.ref _, _, I5.laid (t' := s4.toks) (o := .tup xs.reverse) (fun b ob y => Heap.get?_push_of_some _ y) (Nat.le_refl _) ⟨by rw [List.length_reverse]; exact hz, _, r.reverse, ⟨_, Heap.get?_push_size _ rfl, rfl, _, rfl⟩⟩, rfl, q _ (I5.hok.fresh (Nat.le_refl _))⟩
end Iv

set_option maxHeartbeats 4000000
namespace Iv
open PySem PySem.Spec PyProof.Rows L2
/-! ### the weakest readings -/
def We (X : Cx) (e : Expr) : TE := fun σ H Q => ∀ pins s, Inv X pins σ H s → wpAny (model X.prog X.w) X.A (eval e X.env) (EP X pins σ Q) X.xe s
def Wt (X : Cx) (e : Expr) : TT := fun σ H Q => ∀ pins s, Inv X pins σ H s → wpAny (model X.prog X.w) X.A (isTrue e X.env (eval e X.env)) (TP X pins σ Q) X.xe s
def Wa (X : Cx) (es : List Expr) : TA := fun σ H Q => ∀ pos pins s, Inv X pins σ H s → wpAny (model X.prog X.w) X.A (spliced (backTo pos (starEach es X.env))) (AP X pins σ Q) X.xe s
def Wo (X : Cx) (f : Value → Value → Sem Value) : R2 := fun x y H Q => ∀ pins s σ v u, Inv X pins σ H s → RelV x v → RelV y u → wpAny (model X.prog X.w) X.A (f v u) (EP X pins σ Q) X.xe s
theorem we_pe (X : Cx) (e : Expr) : PE X e (We X e) := ⟨fun pins s _ _ _ I h => h pins s I⟩
theorem wt_pt (X : Cx) (e : Expr) : PT X e (Wt X e) := ⟨fun pins s _ _ _ I h => h pins s I⟩
theorem wa_pa (X : Cx) (es : List Expr) : PA X es (Wa X es) := ⟨fun pos pins s _ _ _ I h => h pos pins s I⟩
theorem wo_op (X : Cx) (f : Value → Value → Sem Value) : OpR X f (Wo X f) := fun pins s σ H x y v u Q I rx ry h => h pins s σ v u I rx ry
theorem _root_.L2.PE.we {X : Cx} {e : Expr} {t : TE} {σ : L2.St} {H : Hp} {Q : VK} (h : PE X e t) (q : t σ H Q) : We X e σ H Q := fun pins s I => h.run pins s σ H Q I q
theorem _root_.L2.PT.wt {X : Cx} {e : Expr} {t : TT} {σ : L2.St} {H : Hp} {Q : Bool → Hp → Prop} (h : PT X e t) (q : t σ H Q) : Wt X e σ H Q := fun pins s I => h.run pins s σ H Q I q
theorem _root_.L2.PA.wa {X : Cx} {es : List Expr} {t : TA} {σ : L2.St} {H : Hp} {Q : List V → Hp → Prop} (h : PA X es t) (q : t σ H Q) : Wa X es σ H Q := fun pos pins s I => h.run pos pins s σ H Q I q
theorem wo_of {X : Cx} {f : Value → Value → Sem Value} {r : R2} {x y : V} {H : Hp} {Q : VK} (h : OpR X f r) (q : r x y H Q) : Wo X f x y H Q := fun pins s σ v u I rx ry => h pins s σ H x y v u Q I rx ry q
/-! ### a value that is read: its top may be owned -/
def TopAt (K : PySem.W.Frag) (β : Option Addr) (O : Addr → Prop) (H : Hp) (v : V) : D → Prop
  | .list ds => ∃ a xs, v = .ref a ∧ β ≠ some a ∧ H a = some (.lst xs) ∧ RpAll K (Fz O H) xs ds
  | .dict kds => ∃ a, ∃ kvs : List (Key × V), v = .ref a ∧ β ≠ some a ∧ H a = some (.dK kvs) ∧ kds.map (·.1) = kvs.map (fun p => kD p.1) ∧ RpAll K (Fz O H) (kvs.map (·.2)) (kds.map (·.2))
  | d => Rp K (Fz O H) v d
def R.d? : R → Option D
  | .fz d => some d
  | .ow d => some d
  | _ => none
abbrev EF := Env' → BSt → Option (R × BSt)
abbrev VF := Env' → BSt → Option (D × BSt)
abbrev TF := Env' → BSt → Option (Bool × BSt)
abbrev AF := Env' → BSt → Option (List R × BSt)
section
variable {K : PySem.W.Frag} {β : Option Addr} {Oo O : Addr → Prop} {H0 H H' : Hp} {σ : L2.St} {env : Env'} {st st' : BSt}
theorem zip_fst {α γ : Type} : ∀ {as : List α} {bs : List γ}, as.length = bs.length → (as.zip bs).map (·.1) = as
  | [], [], _ => rfl
  | a :: as, b :: bs, h => by simp only [List.zip_cons_cons, List.map_cons]; rw [zip_fst (by simpa using h)]
theorem zip_snd {α γ : Type} : ∀ {as : List α} {bs : List γ}, as.length = bs.length → (as.zip bs).map (·.2) = bs
  | [], [], _ => rfl
  | a :: as, b :: bs, h => by simp only [List.zip_cons_cons, List.map_cons]; rw [zip_snd (by simpa using h)]
theorem zip_unzip {α γ : Type} : ∀ l : List (α × γ), (l.map (·.1)).zip (l.map (·.2)) = l
  | [] => rfl
  | (a, b) :: l => by simp only [List.map_cons, List.zip_cons_cons]; rw [zip_unzip l]
theorem top_of_rp (hb : ∀ b, β = some b → O b) {v : V} {d : D} (h : Rp K (Fz O H) v d) : TopAt K β O H v d := by
  cases h with
  | non => exact .non
  | bl b => exact .bl b
  | int i => exact .int i
  | str x => exact .str x
  | lst h1 h2 => exact ⟨_, _, rfl, fun z => (fz_some h1).1 (hb _ z), (fz_some h1).2, h2⟩
  | tup h1 h2 => exact .tup h1 h2
  | @dct a kvs ds h1 h2 =>
    have l : (kvs.map fun p => kD p.1).length = ds.length := by rw [← h2.length]; simp
    exact ⟨_, kvs, rfl, fun z => (fz_some h1).1 (hb _ z), (fz_some h1).2, zip_fst l, by rw [zip_snd l]; exact h2⟩
theorem top_of_ow {a : Addr} {d : D} (hn : β ≠ some a) (h : OwAt K O H a d) : TopAt K β O H (.ref a) d := by
  cases d with
  | list ds => obtain ⟨xs, h1, h2⟩ := h; exact ⟨a, xs, rfl, hn, h1, h2⟩
  | dict kds => obtain ⟨kvs, h1, h2, h3⟩ := h; exact ⟨a, kvs, rfl, hn, h1, h2, h3⟩
  | none => exact h.elim
  | bool _ => exact h.elim
  | int _ => exact h.elim
  | str _ => exact h.elim
  | tuple _ => exact h.elim
theorem TopAt.mono {O' : Addr → Prop} {v : V} {d : D} (h : TopAt K β O H v d) (e : Same (Fz O H) (Fz O' H')) (hb : SB β H H') : TopAt K β O' H' v d := by
  cases d with
  | list ds => obtain ⟨a, xs, h1, h0, h2, h3⟩ := h; exact ⟨a, xs, h1, h0, hb _ _ h0 h2, h3.mono e⟩
  | dict kds => obtain ⟨a, kvs, h1, h0, h2, h3, h4⟩ := h; exact ⟨a, kvs, h1, h0, hb _ _ h0 h2, h3, h4.mono e⟩
  | none => exact Rp.mono e h
  | bool _ => exact Rp.mono e h
  | int _ => exact Rp.mono e h
  | str _ => exact Rp.mono e h
  | tuple _ => exact Rp.mono e h
/-- a fresh thing is frozen by forgetting -/
theorem rp_of_fresh {p : Addr} {d : D} (hO : ¬ O p) (h : OwAt K (orO O p) H' p d) : Rp K (Fz O H') (.ref p) d := by
  have e : Same (Fz (orO O p) H') (Fz O H') := fz_mono (fun a z => .inl z) fun a o _ q => q
  cases d with
  | list ds => obtain ⟨xs, h1, h2⟩ := h; exact .lst (by rw [fz_out hO]; exact h1) (h2.mono e)
  | dict kds =>
    obtain ⟨kvs, h1, h2, h3⟩ := h
    have q := Rp.dct (K := K) (H := Fz O H') (a := p) (by rw [fz_out hO]; exact h1) (h3.mono e)
    rw [← h2, zip_unzip] at q
    exact q
  | none => exact h.elim
  | bool _ => exact h.elim
  | int _ => exact h.elim
  | str _ => exact h.elim
  | tuple _ => exact h.elim
theorem Rel.notO (r : Rel K β Oo H0 O σ H env st) {p : Addr} (h : H p = none) : ¬ O p := fun z => r.dom p z h
theorem Rel.bO' (r : Rel K β Oo H0 O σ H env st) : ∀ b, β = some b → O b := fun b h => r.sub b (r.bO b h)
theorem Rel.neB (r : Rel K β Oo H0 O σ H env st) {p : Addr} (h : H p = none) : β ≠ some p := fun z => r.notO h (r.bO' p z)
/-- a result as frozen data -/
theorem ResAt.rp (r : Rel K β Oo H0 O σ H env st) {v : V} {x : R} {d : D} (h : ResAt K β O H H' v x) (e : x.d? = some d) : Rp K (Fz O H') v d := by
  cases x with
  | fz d' => cases e; exact h
  | ow d' => cases e; obtain ⟨p, rfl, h1, h2, h3⟩ := h; exact rp_of_fresh (r.notO h1) h3
  | bag => cases e
  | scr _ => cases e
theorem ResAt.top (r : Rel K β Oo H0 O σ H env st) {v : V} {x : R} {d : D} (h : ResAt K β O H H' v x) (e : x.d? = some d) : TopAt K β O H' v d := top_of_rp r.bO' (h.rp r e)
end
/-! ### soundness -/
def SoundE (X : Cx) (e : Expr) (f : EF) : Prop := ∀ ⦃β : Option Addr⦄ ⦃Oo : Addr → Prop⦄ ⦃H0 : Hp⦄ ⦃O : Addr → Prop⦄ ⦃σ : L2.St⦄ ⦃H : Hp⦄ ⦃env : Env'⦄ ⦃st : BSt⦄ ⦃r : R⦄ ⦃st' : BSt⦄ ⦃Q : VK⦄,
  Rel X.K β Oo H0 O σ H env st → f env st = some (r, st') → (∀ v H', SB β H H' → BagAt β H' st' → ResAt X.K β O H H' v r → Q v H') → We X e σ H Q
def SoundV (X : Cx) (e : Expr) (f : VF) : Prop := ∀ ⦃β : Option Addr⦄ ⦃Oo : Addr → Prop⦄ ⦃H0 : Hp⦄ ⦃O : Addr → Prop⦄ ⦃σ : L2.St⦄ ⦃H : Hp⦄ ⦃env : Env'⦄ ⦃st : BSt⦄ ⦃d : D⦄ ⦃st' : BSt⦄ ⦃Q : VK⦄,
  Rel X.K β Oo H0 O σ H env st → f env st = some (d, st') → (∀ v H', SB β H H' → BagAt β H' st' → TopAt X.K β O H' v d → Q v H') → We X e σ H Q
def SoundT (X : Cx) (e : Expr) (f : TF) : Prop := ∀ ⦃β : Option Addr⦄ ⦃Oo : Addr → Prop⦄ ⦃H0 : Hp⦄ ⦃O : Addr → Prop⦄ ⦃σ : L2.St⦄ ⦃H : Hp⦄ ⦃env : Env'⦄ ⦃st : BSt⦄ ⦃b : Bool⦄ ⦃st' : BSt⦄ ⦃Q : Bool → Hp → Prop⦄,
  Rel X.K β Oo H0 O σ H env st → f env st = some (b, st') → (∀ H', SB β H H' → BagAt β H' st' → Q b H') → Wt X e σ H Q
/-- arguments: frozen, or the bag, or the script -/
def ArgAt (K : PySem.W.Frag) (β : Option Addr) (O : Addr → Prop) (H : Hp) (v : V) (r : R) : Prop := (∀ d, r ≠ .ow d) ∧ SlAt K β O H v r
def ArgsAt (K : PySem.W.Frag) (β : Option Addr) (O : Addr → Prop) (H : Hp) : List V → List R → Prop := Paired (ArgAt K β O H)
def SoundA (X : Cx) (es : List Expr) (f : AF) : Prop := ∀ ⦃β : Option Addr⦄ ⦃Oo : Addr → Prop⦄ ⦃H0 : Hp⦄ ⦃O : Addr → Prop⦄ ⦃σ : L2.St⦄ ⦃H : Hp⦄ ⦃env : Env'⦄ ⦃st : BSt⦄ ⦃rs : List R⦄ ⦃st' : BSt⦄ ⦃Q : List V → Hp → Prop⦄,
  Rel X.K β Oo H0 O σ H env st → f env st = some (rs, st') → (∀ vs H', SB β H H' → BagAt β H' st' → ArgsAt X.K β O H' vs rs → Q vs H') → Wa X es σ H Q
def failE (_ : Env') (_ : BSt) : Option (R × BSt) := none
def R.down : R → R
  | .ow d => .fz d
  | r => r
section
variable {X : Cx}
theorem s_fail {e : Expr} : SoundE X e failE := fun _ _ _ _ _ _ _ _ _ _ _ _ h => by cases h
theorem argAt_of {K : PySem.W.Frag} {β : Option Addr} {Oo O : Addr → Prop} {H0 H H' : Hp} {σ : L2.St} {env : Env'} {st : BSt} (r : Rel K β Oo H0 O σ H env st) {v : V} {x : R} (h : ResAt K β O H H' v x) : ArgAt K β O H' v x.down := by
  cases x with
  | fz d => exact ⟨fun _ z => (by cases z), h⟩
  | ow d => exact ⟨fun _ z => (by cases z), h.rp r rfl⟩
  | bag => exact ⟨fun _ z => (by cases z), h⟩
  | scr ns => exact ⟨fun _ z => (by cases z), h⟩
theorem ArgAt.mono {K : PySem.W.Frag} {β : Option Addr} {O O' : Addr → Prop} {H H' : Hp} {v : V} {x : R} (h : ArgAt K β O H v x) (e : Same (Fz O H) (Fz O' H')) (hb : SB β H H') : ArgAt K β O' H' v x := ⟨h.1, h.2.mono e hb fun a d q => absurd q (h.1 d)⟩
/-- the value of an expression, read -/
def valF (f : EF) (env : Env') (st : BSt) : Option (D × BSt) := (f env st).bind fun p => p.1.d?.map fun d => (d, p.2)
theorem s_val {e : Expr} {f : EF} (h : SoundE X e f) : SoundV X e (valF f) := by
  intro β Oo H0 O σ H env st d st' Q r hf q
  unfold valF at hf
  cases e1 : f env st with
  | none => rw [e1] at hf; cases hf
  | some p =>
    obtain ⟨x, st1⟩ := p
    rw [e1] at hf
    simp only [Option.bind_some] at hf
    cases e2 : x.d? with
    | none => rw [e2] at hf; cases hf
    | some d' =>
      rw [e2] at hf
      cases hf
      exact h r e1 fun v H' a b c => q v H' a b (c.top r e2)
end
end Iv

set_option maxHeartbeats 4000000
namespace Iv
open PySem PySem.Spec PyProof.Rows L2
section
variable {X : Cx} {β : Option Addr} {O : Addr → Prop} {H H' : Hp}
theorem same_laid {H : Hp} {p : Addr} {o : HO} (h : H p = none) : Same H (upd H p o) := fun a u e => by rw [upd_ne (ne_of_none e h)]; exact e
theorem same_sb {H H' : Hp} (h : Same H H') : SB β H H' := fun a o _ e => h a o e
theorem same_bag {H H' : Hp} {st : BSt} (h : Same H H') (b : BagAt β H st) : BagAt β H' st := b.mono fun x o _ e => h x o e
theorem same_fz {H H' : Hp} (h : Same H H') : Same (Fz O H) (Fz O H') := fz_mono (fun _ z => z) fun a o _ e => h a o e
/-- frozen lists laid anew -/
theorem fresh_list {p : Addr} {xs : List V} {ds : List D} (hp : H p = none) (hO : ∀ a, O a → H a ≠ none) (hn : β ≠ some p) (h : RpAll X.K (Fz O H) xs ds) :
    ResAt X.K β O H (upd H p (.lst xs)) (.ref p) (.ow (.list ds)) := by
  refine ⟨p, rfl, hp, hn, xs, upd_same, h.mono (fun a o e => ?_)⟩
  obtain ⟨n, e⟩ := fz_some e
  have ap : a ≠ p := ne_of_none e hp
  rw [fz_out (fun z => z.elim n ap), upd_ne ap]
  exact e
theorem fresh_tup {p : Addr} {xs : List V} {ds : List D} (hp : H p = none) (hO : ∀ a, O a → H a ≠ none) (h : RpAll X.K (Fz O H) xs ds) :
    ResAt X.K β O H (upd H p (.tup xs)) (.ref p) (.fz (.tuple ds)) := by
  have np : ¬ O p := fun z => hO p z hp
  exact .tup (SqT.of (by rw [fz_out np, upd_same])) (h.mono (same_fz (same_laid hp)))
theorem fz_tup {a : Addr} {xs : List V} (h : SqT X.K (Fz O H) a xs) : SqT X.K H a xs := sameT fz_same h
theorem rp_tup {v : V} {ds : List D} (h : Rp X.K (Fz O H) v (.tuple ds)) : ∃ a xs, v = .ref a ∧ SqT X.K (Fz O H) a xs ∧ RpAll X.K (Fz O H) xs ds := by
  cases h with
  | tup h1 h2 => exact ⟨_, _, rfl, h1, h2⟩
end
/-! ### binary operators on data -/
def lenOk (n : Nat) : Bool := decide (n ≤ sizeLine)
def mulOk (i j : Int) : Bool := decide (i.natAbs.log2 + j.natAbs.log2 < 1000000)
def divOk (j : Int) : Bool := decide (0 < j) && decide (j.natAbs.log2 < 9000)
def powOk (i j : Int) : Bool := decide (0 ≤ j) && decide (j ≤ 1000000) && decide (i.natAbs < 2 ^ 64)
def repOk (n : Nat) (k : Int) : Bool := decide (0 < n) && decide (2 ≤ k) && decide (k ≤ 1000) && decide (n ≤ 1000)
def binD : Operator → D → D → Option R
  | .Add, .int i, .int j => some (.fz (.int (i + j)))
  | .Add, .str x, .str y => if lenOk (x.length + y.length) then some (.fz (.str (x ++ y))) else none
  | .Add, .list xs, .list ys => if lenOk (xs.length + ys.length) then some (.ow (.list (xs ++ ys))) else none
  | .Add, .tuple xs, .tuple ys => if lenOk (xs.length + ys.length) then some (.fz (.tuple (xs ++ ys))) else none
  | .Sub, .int i, .int j => some (.fz (.int (i - j)))
  | .Mult, .int i, .int j => if mulOk i j then some (.fz (.int (i * j))) else none
  | .Mult, .tuple xs, .int k => if repOk xs.length k then some (.fz (.tuple (List.replicate k.toNat xs).flatten)) else none
  | .FloorDiv, .int i, .int j => if divOk j then some (.fz (.int (i / j))) else none
  | .Mod, .int i, .int j => if decide (0 < j) then some (.fz (.int (i % j))) else none
  | .Pow, .int i, .int j => if powOk i j then some (.fz (.int (i ^ j.toNat))) else none
  | .Add, .bool a, .int j => some (.fz (.int (b2i a + j)))
  | .Sub, .bool a, .int j => some (.fz (.int (b2i a - j)))
  | _, _, _ => none
theorem op_add_bi {X : Cx} : OpR X (binaryOp .Add) (fun x y H Q => ∃ k i, x = .bl k ∧ y = .int i ∧ Q (.int (b2i k + i)) H) := by
  intro pins s σ H x y v u Q I rx ry h
  obtain ⟨k, i, rfl, rfl, q⟩ := h
  obtain ⟨t, rfl⟩ := ry
  cases rx
  exact PySem.IntBool.add_bool_int ⟨.int (b2i k + i), H, I.tok _, ⟨_, rfl⟩, q⟩
theorem op_sub_bi {X : Cx} : OpR X (binaryOp .Sub) (fun x y H Q => ∃ k i, x = .bl k ∧ y = .int i ∧ Q (.int (b2i k - i)) H) := by
  intro pins s σ H x y v u Q I rx ry h
  obtain ⟨k, i, rfl, rfl, q⟩ := h
  obtain ⟨t, rfl⟩ := ry
  cases rx
  exact PySem.IntBool.sub_bool_int ⟨.int (b2i k - i), H, I.tok _, ⟨_, rfl⟩, q⟩
theorem ite_some {α : Type} {c : Bool} {a r : α} (h : (if c then some a else none) = some r) : c = true ∧ a = r := by
  cases c with
  | false => cases h
  | true => exact ⟨rfl, Option.some.inj h⟩
section
variable {X : Cx} {β : Option Addr} {O : Addr → Prop} {H : Hp} {x y : V} {Q : VK}
theorem binD_ok {op : Operator} {d e : D} {r : R} (hO : ∀ a, O a → H a ≠ none) (hb : ∀ b, β = some b → O b) (h : binD op d e = some r) (hx : TopAt X.K β O H x d) (hy : TopAt X.K β O H y e)
    (q : ∀ v H', Same H H' → ResAt X.K β O H H' v r → Q v H') : Wo X (binaryOp op) x y H Q := by
  have nb : ∀ p, H p = none → β ≠ some p := fun p hp z => hO p (hb p z) hp
  unfold binD at h
  split at h
  · cases h; cases hx; cases hy
    exact wo_of op_add ⟨_, _, rfl, rfl, q _ _ (Same.refl _) (.int _)⟩
  · obtain ⟨c, rfl⟩ := ite_some h; cases hx; cases hy
    exact wo_of op_add_str ⟨_, _, rfl, rfl, of_decide_eq_true c, q _ _ (Same.refl _) (.str _)⟩
  · obtain ⟨c, rfl⟩ := ite_some h
    obtain ⟨a, xs, rfl, _, h1, h2⟩ := hx
    obtain ⟨b, ys, rfl, _, h3, h4⟩ := hy
    refine wo_of op_cat ⟨_, _, _, _, rfl, rfl, h1, h3, ?_, fun p hp => q _ _ (same_laid hp) (fresh_list hp hO (nb p hp) (h2.append h4))⟩
    rw [h2.length, h4.length]; exact of_decide_eq_true c
  · obtain ⟨c, rfl⟩ := ite_some h
    obtain ⟨a, xs, rfl, h1, h2⟩ := rp_tup hx
    obtain ⟨b, ys, rfl, h3, h4⟩ := rp_tup hy
    refine wo_of op_catA ⟨_, _, _, _, rfl, rfl, fz_tup h1, fz_tup h3, ?_, fun e => ?_, fun _ e => ?_, fun _ _ p hp => q _ _ (same_laid hp) (fresh_tup hp hO (h2.append h4))⟩
    · rw [h2.length, h4.length]; exact of_decide_eq_true c
    · subst e; cases h2; exact q _ _ (Same.refl _) (.tup h3 h4)
    · subst e; cases h4; exact q _ _ (Same.refl _) (by rw [List.append_nil]; exact .tup h1 h2)
  · cases h; cases hx; cases hy
    exact wo_of op_sub ⟨_, _, rfl, rfl, q _ _ (Same.refl _) (.int _)⟩
  · obtain ⟨c, rfl⟩ := ite_some h; cases hx; cases hy
    exact wo_of op_mulW ⟨_, _, rfl, rfl, (of_decide_eq_true c : _ < _), q _ _ (Same.refl _) (.int _)⟩
  · obtain ⟨c, rfl⟩ := ite_some h; cases hy
    obtain ⟨a, xs, rfl, h1, h2⟩ := rp_tup hx
    simp only [repOk, Bool.and_eq_true, decide_eq_true_eq] at c
    obtain ⟨⟨⟨c0, c1⟩, c2⟩, c3⟩ := c
    have l := h2.length
    exact wo_of op_repT ⟨_, _, _, rfl, rfl, fz_tup h1, by rintro rfl; simp at l; omega, c1, c2, by omega, fun p hp => q _ _ (same_laid hp) (fresh_tup hp hO (h2.rep _))⟩
  · obtain ⟨c, rfl⟩ := ite_some h; cases hx; cases hy
    simp only [divOk, Bool.and_eq_true, decide_eq_true_eq] at c
    exact wo_of op_fdivW ⟨_, _, rfl, rfl, c, q _ _ (Same.refl _) (.int _)⟩
  · obtain ⟨c, rfl⟩ := ite_some h; cases hx; cases hy
    exact wo_of op_mod ⟨_, _, rfl, rfl, of_decide_eq_true c, q _ _ (Same.refl _) (.int _)⟩
  · obtain ⟨c, rfl⟩ := ite_some h; cases hx; cases hy
    simp only [powOk, Bool.and_eq_true, decide_eq_true_eq] at c
    exact wo_of op_pow ⟨_, _, rfl, rfl, ⟨c.1.1, c.1.2, c.2⟩, q _ _ (Same.refl _) (.int _)⟩
  · cases h; cases hx; cases hy
    exact wo_of op_add_bi ⟨_, _, rfl, rfl, q _ _ (Same.refl _) (.int _)⟩
  · cases h; cases hx; cases hy
    exact wo_of op_sub_bi ⟨_, _, rfl, rfl, q _ _ (Same.refl _) (.int _)⟩
  · cases h
end
/-! ### comparisons on data -/
def flatD : D → Bool
  | .none => true | .bool _ => true | .int _ => true | .str _ => true
  | _ => false
def noneD : D → Bool
  | .none => true
  | _ => false
def cmpD : CmpOp → D → D → Option Bool
  | .Eq, d, e => if SeqAt.shaped d && SeqAt.shaped e then some (PyData.eqv d e) else none
  | .NotEq, d, e => if SeqAt.shaped d && SeqAt.shaped e then some (!PyData.eqv d e) else none
  | .Lt, .int i, .int j => some (decide (i < j))
  | .LtE, .int i, .int j => some (decide (i ≤ j))
  | .Gt, .int i, .int j => some (decide (j < i))
  | .GtE, .int i, .int j => some (decide (j ≤ i))
  | .In, .str x, .str y => if decide (x.length = 1) then some (decide (x.cps.getD 0 0 ∈ y.cps.toList)) else none
  | .NotIn, .str x, .str y => if decide (x.length = 1) then some (!decide (x.cps.getD 0 0 ∈ y.cps.toList)) else none
  | .In, d, .list ys => if SeqAt.shaped d && SeqAt.shaped (.list ys) then some (ys.any fun z => PyData.eqv z d) else none
  | .NotIn, d, .list ys => if SeqAt.shaped d && SeqAt.shaped (.list ys) then some (!ys.any fun z => PyData.eqv z d) else none
  | .Is, d, .none => some (noneD d)
  | .IsNot, d, .none => some (!noneD d)
  | _, _, _ => none
theorem RpAll.dp {K : PySem.W.Frag} {H : Hp} : ∀ {vs : List V} {ds : List D}, RpAll K H vs ds → PyData.canLayAll0 ds = true → DpAll K H vs ds
  | _, _, .nil, _ => .nil
  | _, d :: ds, .cons a b, z => by
    have z' : d.canLay0 = true ∧ PyData.canLayAll0 ds = true := by simpa [PyData.canLayAll0] using z
    exact .cons (a.dp z'.1) (b.dp z'.2)
section
variable {X : Cx} {β : Option Addr} {O : Addr → Prop} {H : Hp} {x y : V} {Q : VK}
theorem TopAt.dp {d : D} (h : TopAt X.K β O H x d) (s : SeqAt.shaped d = true) : Dp X.K H x d := by
  have c := SeqAt.canLay_of_shaped s
  cases d with
  | list ds =>
    obtain ⟨a, xs, rfl, _, h1, h2⟩ := h
    exact .lst (SqL.of h1) ((h2.mono fz_same).dp (by simpa [PyData.canLay0] using c))
  | dict kds => simp [PyData.canLay0] at c
  | none => exact (Rp.mono fz_same h).dp c
  | bool _ => exact (Rp.mono fz_same h).dp c
  | int _ => exact (Rp.mono fz_same h).dp c
  | str _ => exact (Rp.mono fz_same h).dp c
  | tuple _ => exact (Rp.mono fz_same h).dp c
theorem TopAt.non {d : D} (h : TopAt X.K β O H x d) : decide (x = .non) = noneD d := by
  cases d with
  | list ds => obtain ⟨a, xs, rfl, _⟩ := h; simp [noneD]
  | dict kds => obtain ⟨a, xs, rfl, _⟩ := h; simp [noneD]
  | none => cases h; simp [noneD]
  | bool _ => cases h; simp [noneD]
  | int _ => cases h; simp [noneD]
  | str _ => cases h; simp [noneD]
  | tuple _ => cases h; simp [noneD]
theorem one_sign {x : Str} (h : x.length = 1) : x = ⟨#[x.cps.getD 0 0]⟩ := by
  obtain ⟨⟨l⟩⟩ := x
  have h' : l.length = 1 := h
  match l, h' with
  | [c], _ => rfl
theorem cmpD_ok {op : CmpOp} {d e : D} {b : Bool} (hu : X.A.units + 65 < cLine) (h : cmpD op d e = some b) (hx : TopAt X.K β O H x d) (hy : TopAt X.K β O H y e)
    (q : Q (.bl b) H) : Wo X (compareOp op) x y H Q := by
  unfold cmpD at h
  split at h
  · obtain ⟨c, rfl⟩ := ite_some h
    rw [Bool.and_eq_true] at c
    exact wo_of (op_eqD (by omega)) ⟨_, _, hx.dp c.1, hy.dp c.2, c.1, c.2, q⟩
  · obtain ⟨c, rfl⟩ := ite_some h
    rw [Bool.and_eq_true] at c
    exact wo_of (op_neD (by omega)) ⟨_, _, hx.dp c.1, hy.dp c.2, c.1, c.2, q⟩
  · cases h; cases hx; cases hy; exact wo_of op_lt ⟨_, _, rfl, rfl, q⟩
  · cases h; cases hx; cases hy; exact wo_of op_le ⟨_, _, rfl, rfl, q⟩
  · cases h; cases hx; cases hy; exact wo_of op_gt ⟨_, _, rfl, rfl, q⟩
  · cases h; cases hx; cases hy; exact wo_of op_ge ⟨_, _, rfl, rfl, q⟩
  · obtain ⟨c, rfl⟩ := ite_some h; cases hx; cases hy
    exact wo_of op_in_sign ⟨_, _, by rw [← one_sign (of_decide_eq_true c)], rfl, q⟩
  · obtain ⟨c, rfl⟩ := ite_some h; cases hx; cases hy
    exact wo_of op_notIn_sign ⟨_, _, by rw [← one_sign (of_decide_eq_true c)], rfl, q⟩
  · obtain ⟨c, rfl⟩ := ite_some h
    rw [Bool.and_eq_true] at c
    exact wo_of (op_inD hu) ⟨_, _, hx.dp c.1, hy.dp c.2, c.1, c.2, q⟩
  · obtain ⟨c, rfl⟩ := ite_some h
    rw [Bool.and_eq_true] at c
    exact wo_of (op_notInD hu) ⟨_, _, hx.dp c.1, hy.dp c.2, c.1, c.2, q⟩
  · cases h; cases hy
    exact wo_of op_isN ⟨rfl, by rw [hx.non]; exact q⟩
  · cases h; cases hy
    exact wo_of op_notN ⟨rfl, by rw [hx.non]; exact q⟩
  · cases h
end
end Iv

set_option maxHeartbeats 4000000
namespace Iv
open PySem PySem.Spec PyProof.Rows L2
/-! ### the place in the text -/
inductive Gv where
  | fn | cst (d : D) | blt
structure Sx where
  N : List Str
  sc : Scope
  gl : Str → Option Gv
  blk : Bool := false
abbrev FT := Str → List R → BSt → Option (R × BSt)
def ixOf : List Str → Str → Option Nat
  | [], _ => none
  | y :: ys, x => if y = x then some 0 else (ixOf ys x).map (· + 1)
theorem ixOf_ok : ∀ {N : List Str} {x : Str} {i : Nat}, ixOf N x = some i → N[i]? = some x
  | y :: ys, x, i, h => by
    unfold ixOf at h
    by_cases e : y = x
    · rw [if_pos e] at h; cases h; simp [e]
    · rw [if_neg e] at h
      cases q : ixOf ys x with
      | none => rw [q] at h; cases h
      | some j => rw [q] at h; cases h; simpa using ixOf_ok q
def plainName (x : Str) : Bool := !(x == ("__debug__" : Str)) && !(x == ("__classdict__" : Str)) && !(x == ("__name__" : Str))
def visK : Option NameKind → Bool
  | some .local => true | some .cell => true | some .free => true
  | _ => false
def locK : Option NameKind → Bool
  | some .local => true | some .cell => true
  | _ => false
def isGl : Option NameKind → Bool
  | some .globalImplicit => true
  | _ => false
def slotOf (S : Sx) (x : Str) : Option Nat := if plainName x && visK (S.sc.names.lookup x) then ixOf S.N x else none
def isBlt (S : Sx) (x : Str) : Bool := plainName x && isGl (S.sc.names.lookup x) && (match S.gl x with | some .blt => true | _ => false)
def isFn (S : Sx) (x : Str) : Bool := plainName x && isGl (S.sc.names.lookup x) && (match S.gl x with | some .fn => true | _ => false)
def cstOf (S : Sx) (x : Str) : Option D := if plainName x && isGl (S.sc.names.lookup x) then (match S.gl x with | some (.cst d) => some d | _ => none) else none
/-- the promise of a def -/
def spI (K : PySem.W.Frag) (n : Nat) (f : List R → BSt → Option (R × BSt)) : Sp := fun vs H Q _ => vs.length = n ∧ ∃ (β : Option Addr) (Oo : Addr → Prop) (rs : List R) (st : BSt) (r : R) (st' : BSt),
  ArgsAt K β Oo H vs rs ∧ (∀ b, β = some b → Oo b) ∧ (∀ a, Oo a → H a ≠ none) ∧ BagAt β H st ∧ f rs st = some (r, st') ∧
  ∀ v H', SB β H H' → BagAt β H' st' → ResAt K β Oo H H' v r → Q v H'
def GvOk (X : Cx) (F : FT) (x : Str) : Gv → Prop
  | .blt => X.mg x = none
  | .cst d => ∃ v u, X.mg x = some u ∧ RelV v u ∧ ∀ H, Rp X.K H v d
  | .fn => ∃ k f fd ps, X.mg x = some (.ref f) ∧ PySem.W.keepIn X.K (.ref f) = true ∧ Binds X.K fd ps [] ∧ Room k X.A ∧ FnOk X.prog X.w X.K X.mg X.base CX0 k f fd ps (spI X.K ps.length (F x)) ∧ ∀ rs st r, F x rs st = some r → rs.length = ps.length
structure CxS (F : FT) (S : Sx) (X : Cx) : Prop where
  N : X.N = S.N
  sc : X.env.scope = S.sc
  calm : X.calm = true
  nd : S.N.Nodup
  hu : X.A.units + 65 < cLine
  fn : S.blk = false → ∀ x, X.fn x = true
  gl : ∀ x g, S.gl x = some g → GvOk X F x g
  xe : X.xe = fun _ _ => False
  kind : X.env.scope.kind = .function
section
variable {F : FT} {S : Sx} {X : Cx}
theorem plain1 {x : Str} (h : plainName x = true) : (x == ("__debug__" : Str)) = false ∧ (x == ("__classdict__" : Str)) = false ∧ x ≠ "__name__" := by
  unfold plainName at h
  simp only [Bool.and_eq_true, Bool.not_eq_true'] at h
  refine ⟨h.1.1, h.1.2, fun e => ?_⟩
  rw [e] at h
  simp at h
theorem visK_ok {o : Option NameKind} (h : visK o = true) : o = some .local ∨ o = some .cell ∨ o = some .free := by
  unfold visK at h
  split at h <;> simp_all
theorem isGl_ok {o : Option NameKind} (h : isGl o = true) : o = some .globalImplicit := by
  unfold isGl at h
  split at h <;> simp_all
theorem slotOf_ok (C : CxS F S X) {x : Str} {i : Nat} (h : slotOf S x = some i) : X.N[i]? = some x ∧ Vis X.env.scope x ∧ (x == ("__debug__" : Str)) = false ∧ (x == ("__classdict__" : Str)) = false := by
  obtain ⟨c, h⟩ : _ ∧ ixOf S.N x = some i := by
    unfold slotOf at h
    cases c : plainName x && visK (S.sc.names.lookup x) with
    | false => rw [c] at h; cases h
    | true => rw [c] at h; exact ⟨c, h⟩
  rw [Bool.and_eq_true] at c
  have p := plain1 c.1
  refine ⟨by rw [C.N]; exact ixOf_ok h, ?_, p.1, p.2.1⟩
  unfold Vis
  rw [C.sc]
  exact visK_ok c.2
theorem isBlt_ok (C : CxS F S X) {x : Str} (h : isBlt S x = true) : Gl X x ∧ X.mg x = none ∧ x ≠ "__name__" ∧ (x == ("__debug__" : Str)) = false := by
  unfold isBlt at h
  simp only [Bool.and_eq_true] at h
  have p := plain1 h.1.1
  refine ⟨?_, ?_, p.2.2, p.1⟩
  · show X.env.scope.names.lookup x = _
    rw [C.sc]; exact isGl_ok h.1.2
  · have g := h.2
    split at g
    · rename_i e; exact C.gl x _ e
    · cases g
theorem isFn_ok (C : CxS F S X) {x : Str} (h : isFn S x = true) : Gl X x ∧ GvOk X F x .fn ∧ (x == ("__debug__" : Str)) = false := by
  unfold isFn at h
  simp only [Bool.and_eq_true] at h
  have p := plain1 h.1.1
  refine ⟨?_, ?_, p.1⟩
  · show X.env.scope.names.lookup x = _
    rw [C.sc]; exact isGl_ok h.1.2
  · have g := h.2
    split at g
    · rename_i e; exact C.gl x _ e
    · cases g
/-! ### names and constants -/
def nameF (S : Sx) (x : Str) (env : Env') (st : BSt) : Option (R × BSt) := match slotOf S x with
  | some i => (match env[i]? with
    | some (some (.fz d)) => some (.fz d, st)
    | some (some .bag) => some (.bag, st)
    | some (some (.scr ns)) => some (.scr ns, st)
    | _ => none)
  | none => (cstOf S x).map fun d => (.fz d, st)
def nameV (S : Sx) (x : Str) (env : Env') (st : BSt) : Option (D × BSt) := match slotOf S x with
  | some i => (match env[i]? with
    | some (some (.fz d)) => some (d, st)
    | some (some (.ow d)) => some (d, st)
    | _ => none)
  | none => (cstOf S x).map fun d => (d, st)
theorem cst_ok (C : CxS F S X) {x : Str} {d : D} {pos : Pos} {σ : L2.St} {H : Hp} {Q : VK} (h : cstOf S x = some d) (q : ∀ v, (∀ H, Rp X.K H v d) → Q v H) : We X (.Name x pos) σ H Q := by
  unfold cstOf at h
  cases c : plainName x && isGl (S.sc.names.lookup x) with
  | false => rw [c] at h; cases h
  | true =>
    rw [c] at h
    rw [Bool.and_eq_true] at c
    have p := plain1 c.1
    simp only [if_true] at h
    split at h
    · rename_i d' e
      cases h
      obtain ⟨v, u, h1, h2, h3⟩ := C.gl x _ e
      refine (pe_glob (show Gl X x from ?_) h1 h2 p.1).we (q v h3)
      show X.env.scope.names.lookup x = _
      rw [C.sc]; exact isGl_ok c.2
    · cases h
theorem s_name (C : CxS F S X) {x : Str} {pos : Pos} : SoundE X (.Name x pos) (nameF S x) := by
  intro β Oo H0 O σ H env st r st' Q rel h q
  unfold nameF at h
  cases e : slotOf S x with
  | none =>
    rw [e] at h
    cases e2 : cstOf S x with
    | none => rw [e2] at h; cases h
    | some d => rw [e2] at h; cases h; exact cst_ok C e2 fun v hv => q v H SB.refl rel.bag (hv _)
  | some i =>
    rw [e] at h
    obtain ⟨h1, h2, h3, h4⟩ := slotOf_ok C e
    simp only at h
    split at h
    · rename_i d e2
      cases h
      obtain ⟨v, hv, hs⟩ := rel.sl i _ e2
      exact (pe_var h1 h2 h3 h4).we ⟨v, hv, q v H SB.refl rel.bag hs⟩
    · rename_i e2
      cases h
      obtain ⟨v, hv, hs⟩ := rel.sl i _ e2
      exact (pe_var h1 h2 h3 h4).we ⟨v, hv, q v H SB.refl rel.bag hs⟩
    · rename_i ns e2
      cases h
      obtain ⟨v, hv, hs⟩ := rel.sl i _ e2
      exact (pe_var h1 h2 h3 h4).we ⟨v, hv, q v H SB.refl rel.bag hs⟩
    · cases h
theorem s_nameV (C : CxS F S X) {x : Str} {pos : Pos} : SoundV X (.Name x pos) (nameV S x) := by
  intro β Oo H0 O σ H env st d st' Q rel h q
  unfold nameV at h
  cases e : slotOf S x with
  | none =>
    rw [e] at h
    cases e2 : cstOf S x with
    | none => rw [e2] at h; cases h
    | some d => rw [e2] at h; cases h; exact cst_ok C e2 fun v hv => q v H SB.refl rel.bag (top_of_rp rel.bO' (hv _))
  | some i =>
    rw [e] at h
    obtain ⟨h1, h2, h3, h4⟩ := slotOf_ok C e
    simp only at h
    split at h
    · rename_i d e2
      cases h
      obtain ⟨v, hv, hs⟩ := rel.sl i _ e2
      exact (pe_var h1 h2 h3 h4).we ⟨v, hv, q v H SB.refl rel.bag (top_of_rp rel.bO' hs)⟩
    · rename_i d e2
      cases h
      obtain ⟨v, hv, a, rfl, ha, hn, ho⟩ := rel.sl i _ e2
      exact (pe_var h1 h2 h3 h4).we ⟨_, hv, q _ H SB.refl rel.bag (top_of_ow hn ho)⟩
    · cases h
def constF : Const → EF
  | .int i => fun _ st => some (.fz (.int i), st)
  | .bool b => fun _ st => some (.fz (.bool b), st)
  | .str x => fun _ st => some (.fz (.str x), st)
  | .none => fun _ st => some (.fz .none, st)
  | _ => failE
theorem s_const {c : Const} {k : Nat} {pos : Pos} : SoundE X (.Constant c k pos) (constF c) := by
  intro β Oo H0 O σ H env st r st' Q rel h q
  unfold constF at h
  split at h
  · cases h; exact pe_int.we (q _ _ SB.refl rel.bag (.int _))
  · cases h; exact pe_bl.we (q _ _ SB.refl rel.bag (.bl _))
  · cases h; exact pe_str.we (q _ _ SB.refl rel.bag (.str _))
  · cases h; exact pe_non.we (q _ _ SB.refl rel.bag .non)
  · cases h
/-! ### operators -/
theorem bind2 {α γ δ ε : Type} {m : Option (α × δ)} {f : α → δ → Option (γ × ε)} {r : γ × ε} (h : (m.bind fun p => f p.1 p.2) = some r) : ∃ a s, m = some (a, s) ∧ f a s = some r := by
  cases m with
  | none => cases h
  | some p => exact ⟨p.1, p.2, rfl, h⟩
theorem bind1 {α γ : Type} {m : Option α} {f : α → Option γ} {r : γ} (h : m.bind f = some r) : ∃ a, m = some a ∧ f a = some r := by
  cases m with
  | none => cases h
  | some p => exact ⟨p, rfl, h⟩
theorem map1 {α γ : Type} {m : Option α} {f : α → γ} {r : γ} (h : m.map f = some r) : ∃ a, m = some a ∧ f a = r := by
  cases m with
  | none => cases h
  | some p => exact ⟨p, rfl, Option.some.inj h⟩
def binF (op : Operator) (f g : VF) (env : Env') (st : BSt) : Option (R × BSt) := (f env st).bind fun p => (g env p.2).bind fun q => (binD op p.1 q.1).map fun r => (r, q.2)
theorem s_bin {a b : Expr} {op : Operator} {pos : Pos} {f g : VF} (ha : SoundV X a f) (hb : SoundV X b g) : SoundE X (.BinOp a op b pos) (binF op f g) := by
  intro β Oo H0 O σ H env st r st' Q rel h q
  obtain ⟨⟨d, s1⟩, e1, h⟩ := bind1 h
  obtain ⟨⟨e, s2⟩, e2, h⟩ := bind1 h
  obtain ⟨r', e3, h⟩ := map1 h
  cases h
  refine (pe_op (wo_op X _) (we_pe X a) (we_pe X b)).we (ha rel e1 fun x H1 sb1 bg1 tx => ?_)
  have rel1 := rel.step sb1 bg1
  refine hb rel1 e2 fun y H2 sb2 bg2 ty => ?_
  have rel2 := rel1.step sb2 bg2
  refine binD_ok rel2.dom rel2.bO' e3 (tx.mono (rel1.fzm sb2) sb2) ty fun v H3 sm rs => ?_
  refine q v H3 (sb1.trans (sb2.trans (same_sb sm))) (same_bag sm bg2) ?_
  cases r with
  | fz d => exact rs
  | ow d =>
    obtain ⟨p, h1, h2, h3, h4⟩ := rs
    refine ⟨p, h1, ?_, h3, h4⟩
    cases e : H p with
    | none => rfl
    | some o => rw [sb2 p o h3 (sb1 p o h3 e)] at h2; cases h2
  | bag => exact rs
  | scr _ => exact rs
/-- a later heap's fresh thing is fresh for the earlier -/
theorem ResAt.back {K : PySem.W.Frag} {β : Option Addr} {O : Addr → Prop} {H H1 H2 : Hp} {v : V} {r : R} (sb : SB β H H1) (h : ResAt K β O H1 H2 v r) : ResAt K β O H H2 v r := by
  cases r with
  | fz d => exact h
  | ow d =>
    obtain ⟨p, h1, h2, h3, h4⟩ := h
    refine ⟨p, h1, ?_, h3, h4⟩
    cases e : H p with
    | none => rfl
    | some o => rw [sb p o h3 e] at h2; cases h2
  | bag => exact h
  | scr _ => exact h
def cmpF (op : CmpOp) (f g : VF) (env : Env') (st : BSt) : Option (Bool × BSt) := (f env st).bind fun p => (g env p.2).bind fun q => (cmpD op p.1 q.1).map fun r => (r, q.2)
def blF (f : TF) (env : Env') (st : BSt) : Option (R × BSt) := (f env st).map fun p => (.fz (.bool p.1), p.2)
def noSet : Expr → Bool
  | .Set .. => false
  | _ => true
theorem noSet_mark {e : Expr} (h : noSet e = true) (op : CmpOp) : behindInMarks op e = false := by
  cases e <;> first | rfl | cases h
theorem s_cmp {a b : Expr} {op : CmpOp} {pos : Pos} {f g : VF} (C : CxS F S X) (hn : noSet b = true) (ha : SoundV X a f) (hb : SoundV X b g) : SoundE X (.Compare a [op] [b] pos) (blF (cmpF op f g)) := by
  intro β Oo H0 O σ H env st r st' Q rel h q
  obtain ⟨⟨k, s3⟩, g0, h'⟩ := map1 h
  cases h'
  clear h
  obtain ⟨⟨d, s1⟩, e1, h⟩ := bind1 g0
  obtain ⟨⟨e, s2⟩, e2, h⟩ := bind1 h
  obtain ⟨r', e3, h⟩ := map1 h
  cases h
  refine (pe_cmpR (wo_op X _) (we_pe X a) (we_pe X b) (noSet_mark hn op)).we (ha rel e1 fun x H1 sb1 bg1 tx => ?_)
  have rel1 := rel.step sb1 bg1
  refine hb rel1 e2 fun y H2 sb2 bg2 ty => ?_
  exact cmpD_ok C.hu e3 (tx.mono (rel1.fzm sb2) sb2) ty (q _ _ (sb1.trans sb2) bg2 (.bl _))
theorem s_cmpT {a b : Expr} {op : CmpOp} {pos : Pos} {f g : VF} (C : CxS F S X) (hn : noSet b = true) (ha : SoundV X a f) (hb : SoundV X b g) : SoundT X (.Compare a [op] [b] pos) (cmpF op f g) := by
  intro β Oo H0 O σ H env st k st' Q rel h q
  obtain ⟨⟨d, s1⟩, e1, h⟩ := bind1 h
  obtain ⟨⟨e, s2⟩, e2, h⟩ := bind1 h
  obtain ⟨r', e3, h⟩ := map1 h
  cases h
  refine (pt_cmpR (wo_op X _) (we_pe X a) (we_pe X b) (noSet_mark hn op)).wt (ha rel e1 fun x H1 sb1 bg1 tx => ?_)
  have rel1 := rel.step sb1 bg1
  refine hb rel1 e2 fun y H2 sb2 bg2 ty => ?_
  exact cmpD_ok C.hu e3 (tx.mono (rel1.fzm sb2) sb2) ty ⟨_, rfl, q _ (sb1.trans sb2) bg2⟩
def chainF (op op' : CmpOp) (f g k : VF) (env : Env') (st : BSt) : Option (Bool × BSt) := (f env st).bind fun p => (g env p.2).bind fun q => (cmpD op p.1 q.1).bind fun r =>
  if r then (k env q.2).bind fun z => (cmpD op' q.1 z.1).map fun r' => (r', z.2) else some (false, q.2)
theorem s_chain {a b c : Expr} {op op' : CmpOp} {pos : Pos} {f g k : VF} (C : CxS F S X) (hn : noSet b = true) (hn' : noSet c = true) (ha : SoundV X a f) (hb : SoundV X b g) (hc : SoundV X c k) :
    SoundE X (.Compare a [op, op'] [b, c] pos) (blF (chainF op op' f g k)) ∧ SoundT X (.Compare a [op, op'] [b, c] pos) (chainF op op' f g k) := by
  have hm : lastMarks [op, op'] [b, c] = false := noSet_mark hn' op'
  constructor
  · intro β Oo H0 O σ H env st r st' Q rel h q
    obtain ⟨⟨z, s3⟩, g0, h'⟩ := map1 h
    cases h'
    clear h
    obtain ⟨⟨d, s1⟩, e1, h⟩ := bind1 g0
    obtain ⟨⟨e, s2⟩, e2, h⟩ := bind1 h
    obtain ⟨r', e3, h⟩ := bind1 h
    refine (pe_chain (wo_op X _) (wo_op X _) (we_pe X a) (we_pe X b) (we_pe X c) hm).we (ha rel e1 fun x H1 sb1 bg1 tx => ?_)
    have rel1 := rel.step sb1 bg1
    refine hb rel1 e2 fun y H2 sb2 bg2 ty => ?_
    have rel2 := rel1.step sb2 bg2
    refine cmpD_ok C.hu e3 (tx.mono (rel1.fzm sb2) sb2) ty ⟨_, rfl, ?_⟩
    cases r' with
    | false => cases h; exact iteF (q _ _ (sb1.trans sb2) bg2 (.bl _))
    | true =>
      refine iteT ?_
      simp only [if_true] at h
      obtain ⟨⟨d3, s4⟩, e4, h⟩ := bind1 h
      obtain ⟨r4, e5, h⟩ := map1 h
      cases h
      refine hc rel2 e4 fun w H3 sb3 bg3 tw => ?_
      exact cmpD_ok C.hu e5 (ty.mono (rel2.fzm sb3) sb3) tw (q _ _ (sb1.trans (sb2.trans sb3)) bg3 (.bl _))
  · intro β Oo H0 O σ H env st z st' Q rel h q
    obtain ⟨⟨d, s1⟩, e1, h⟩ := bind1 h
    obtain ⟨⟨e, s2⟩, e2, h⟩ := bind1 h
    obtain ⟨r', e3, h⟩ := bind1 h
    refine (pt_chain (wo_op X _) (wo_op X _) (we_pe X a) (we_pe X b) (we_pe X c) hm).wt (ha rel e1 fun x H1 sb1 bg1 tx => ?_)
    have rel1 := rel.step sb1 bg1
    refine hb rel1 e2 fun y H2 sb2 bg2 ty => ?_
    have rel2 := rel1.step sb2 bg2
    refine cmpD_ok C.hu e3 (tx.mono (rel1.fzm sb2) sb2) ty ⟨_, rfl, ?_⟩
    cases r' with
    | false => cases h; exact iteF ⟨_, rfl, q _ (sb1.trans sb2) bg2⟩
    | true =>
      refine iteT ?_
      simp only [if_true] at h
      obtain ⟨⟨d3, s4⟩, e4, h⟩ := bind1 h
      obtain ⟨r4, e5, h⟩ := map1 h
      cases h
      refine hc rel2 e4 fun w H3 sb3 bg3 tw => ?_
      exact cmpD_ok C.hu e5 (ty.mono (rel2.fzm sb3) sb3) tw ⟨_, rfl, q _ (sb1.trans (sb2.trans sb3)) bg3⟩
/-! ### not, and, or, tests -/
def boolOf : D → Option Bool
  | .bool b => some b
  | _ => none
theorem boolOf_ok {d : D} {b : Bool} (h : boolOf d = some b) : d = .bool b := by
  cases d <;> cases h; rfl
def tstF (f : VF) (env : Env') (st : BSt) : Option (Bool × BSt) := (f env st).bind fun p => (boolOf p.1).map fun b => (b, p.2)
def plainT : Expr → Bool
  | .UnaryOp .Not _ _ => false | .BoolOp .. => false | .IfExp .. => false | .Compare .. => false
  | _ => true
theorem plainT_ok {e : Expr} (h : plainT e = true) (env : Env) : ∀ whole, isTrue e env whole = (do let v ← whole; standAt e.pos; holding [v] (truthy v)) := by
  intro whole
  cases e with
  | UnaryOp op x pos => cases op <;> first | rfl | cases h
  | BoolOp _ _ _ => cases h
  | IfExp _ _ _ _ => cases h
  | Compare _ _ _ _ => cases h
  | _ => rfl
theorem s_tst {e : Expr} {f : VF} (hp : plainT e = true) (he : SoundV X e f) : SoundT X e (tstF f) := by
  intro β Oo H0 O σ H env st b st' Q rel h q
  obtain ⟨⟨d, s1⟩, e1, h⟩ := bind1 h
  obtain ⟨b', e2, h⟩ := map1 h
  cases h
  cases boolOf_ok e2
  refine (pt_val (we_pe X e) (plainT_ok hp X.env)).wt (he rel e1 fun v H1 sb1 bg1 tv => ?_)
  cases tv
  exact ⟨_, rfl, q _ sb1 bg1⟩
def notT (f : TF) (env : Env') (st : BSt) : Option (Bool × BSt) := (f env st).map fun p => (!p.1, p.2)
theorem s_notT {e : Expr} {f : TF} {pos : Pos} (he : SoundT X e f) : SoundT X (.UnaryOp .Not e pos) (notT f) := by
  intro β Oo H0 O σ H env st b st' Q rel h q
  obtain ⟨⟨d, s1⟩, e1, h⟩ := map1 h
  cases h
  exact (pt_not (wt_pt X e)).wt (he rel e1 fun H1 sb1 bg1 => q _ sb1 bg1)
def notE (f : VF) (env : Env') (st : BSt) : Option (R × BSt) := (f env st).bind fun p => (boolOf p.1).map fun b => (.fz (.bool (!b)), p.2)
theorem s_notE {e : Expr} {f : VF} {pos : Pos} (he : SoundV X e f) : SoundE X (.UnaryOp .Not e pos) (notE f) := by
  intro β Oo H0 O σ H env st r st' Q rel h q
  obtain ⟨⟨d, s1⟩, e1, h⟩ := bind1 h
  obtain ⟨b', e2, h⟩ := map1 h
  cases h
  cases boolOf_ok e2
  refine (pe_not (we_pe X e)).we (he rel e1 fun v H1 sb1 bg1 tv => ?_)
  cases tv
  exact ⟨_, rfl, q _ _ sb1 bg1 (.bl _)⟩
def negE (f : VF) (env : Env') (st : BSt) : Option (R × BSt) := (f env st).bind fun p => match p.1 with | .int i => some (.fz (.int (-i)), p.2) | .bool b => some (.fz (.int (-(b2i b))), p.2) | _ => none
theorem givesNegB (a : Bool) : Gives (Builtin.«int.__neg__» ⟨[.bool a], []⟩) (.int (-(if a = true then (1 : Int) else 0))) :=
  .of_wp fun M A E s Q h => by obtain ⟨hp, g, d, tk, os⟩ := s; wp_walk; exact ⟨_, rfl, h⟩
theorem un_negB : UnR X (unaryOp .USub) (fun x H Q => ∃ b, x = .bl b ∧ Q (.int (-(b2i b))) H) := by
  intro pins s σ H x v Q I rx h
  obtain ⟨b, rfl, q⟩ := h
  cases rx
  exact unaryOp_gives (op := .USub) (PySem.typeIs_bool s b) rfl F.slot_bool_neg F.entry_int_neg (F.args_int_neg_1 _) (givesNegB b) ⟨.int (-(b2i b)), H, I.tok _, ⟨_, rfl⟩, q⟩
theorem s_negE {e : Expr} {f : VF} {pos : Pos} (he : SoundV X e f) : SoundE X (.UnaryOp .USub e pos) (negE f) := by
  intro β Oo H0 O σ H env st r st' Q rel h q
  obtain ⟨⟨d, s1⟩, e1, h⟩ := bind1 h
  simp only at h
  split at h
  · cases h
    refine (pe_un un_neg (we_pe X e)).we (he rel e1 fun v H1 sb1 bg1 tv => ?_)
    cases tv
    exact ⟨_, rfl, q _ _ sb1 bg1 (.int _)⟩
  · cases h
    refine (pe_un un_negB (we_pe X e)).we (he rel e1 fun v H1 sb1 bg1 tv => ?_)
    cases tv
    exact ⟨_, rfl, q _ _ sb1 bg1 (.int _)⟩
  · cases h
def andT (f g : TF) (env : Env') (st : BSt) : Option (Bool × BSt) := (f env st).bind fun p => if p.1 then g env p.2 else some (false, p.2)
def orT (f g : TF) (env : Env') (st : BSt) : Option (Bool × BSt) := (f env st).bind fun p => if p.1 then some (true, p.2) else g env p.2
def andE (f : VF) (g : EF) (env : Env') (st : BSt) : Option (R × BSt) := (f env st).bind fun p => (boolOf p.1).bind fun b => if b then g env p.2 else some (.fz (.bool false), p.2)
def orE (f : VF) (g : EF) (env : Env') (st : BSt) : Option (R × BSt) := (f env st).bind fun p => (boolOf p.1).bind fun b => if b then some (.fz (.bool true), p.2) else g env p.2
def Ww (X : Cx) (e : Expr) : TT := fun σ H Q => ∀ whole pins s, Inv X pins σ H s → wpAny (model X.prog X.w) X.A (isTrue e X.env whole) (TP X pins σ Q) X.xe s
theorem ww_pw (X : Cx) (e : Expr) : PW X e (Ww X e) := ⟨fun w pins s _ _ _ I h => h w pins s I⟩
theorem _root_.L2.PW.ww {X : Cx} {e : Expr} {t : TT} {σ : L2.St} {H : Hp} {Q : Bool → Hp → Prop} (h : PW X e t) (q : t σ H Q) : Ww X e σ H Q := fun w pins s I => h.run w pins s σ H Q I q
def SoundW (X : Cx) (e : Expr) (f : TF) : Prop := ∀ ⦃β : Option Addr⦄ ⦃Oo : Addr → Prop⦄ ⦃H0 : Hp⦄ ⦃O : Addr → Prop⦄ ⦃σ : L2.St⦄ ⦃H : Hp⦄ ⦃env : Env'⦄ ⦃st : BSt⦄ ⦃b : Bool⦄ ⦃st' : BSt⦄ ⦃Q : Bool → Hp → Prop⦄,
  Rel X.K β Oo H0 O σ H env st → f env st = some (b, st') → (∀ H', SB β H H' → BagAt β H' st' → Q b H') → Ww X e σ H Q
theorem SoundW.t {e : Expr} {f : TF} (h : SoundW X e f) : SoundT X e f := fun _ _ _ _ _ _ _ _ _ _ _ rel hf q => (PW.pt (ww_pw X e)).wt (h rel hf q)
theorem s_and1 {a : Expr} {f : TF} {pos : Pos} (ha : SoundT X a f) : SoundW X (.BoolOp .And [a] pos) f := fun _ _ _ _ _ _ _ _ _ _ _ rel hf q => (pw_and1 (wt_pt X a)).ww (ha rel hf q)
theorem s_or1 {a : Expr} {f : TF} {pos : Pos} (ha : SoundT X a f) : SoundW X (.BoolOp .Or [a] pos) f := fun _ _ _ _ _ _ _ _ _ _ _ rel hf q => (pw_or1 (wt_pt X a)).ww (ha rel hf q)
theorem s_andT {a b : Expr} {rest : List Expr} {f g : TF} {pos : Pos} (ha : SoundT X a f) (hb : SoundW X (.BoolOp .And (b :: rest) pos) g) : SoundW X (.BoolOp .And (a :: b :: rest) pos) (andT f g) := by
  intro β Oo H0 O σ H env st k st' Q rel h q
  obtain ⟨⟨d, s1⟩, e1, h⟩ := bind1 h
  refine (pw_and (wt_pt X a) (ww_pw X _)).ww (ha rel e1 fun H1 sb1 bg1 => ?_)
  cases d with
  | false => cases h; exact iteF (q _ sb1 bg1)
  | true => exact iteT (hb (rel.step sb1 bg1) h fun H2 sb2 bg2 => q _ (sb1.trans sb2) bg2)
theorem s_orT {a b : Expr} {rest : List Expr} {f g : TF} {pos : Pos} (ha : SoundT X a f) (hb : SoundW X (.BoolOp .Or (b :: rest) pos) g) : SoundW X (.BoolOp .Or (a :: b :: rest) pos) (orT f g) := by
  intro β Oo H0 O σ H env st k st' Q rel h q
  obtain ⟨⟨d, s1⟩, e1, h⟩ := bind1 h
  refine (pw_or (wt_pt X a) (ww_pw X _)).ww (ha rel e1 fun H1 sb1 bg1 => ?_)
  cases d with
  | true => cases h; exact iteT (q _ sb1 bg1)
  | false => exact iteF (hb (rel.step sb1 bg1) h fun H2 sb2 bg2 => q _ (sb1.trans sb2) bg2)
theorem s_one {a : Expr} {op : BoolOp} {f : EF} {pos : Pos} (ha : SoundE X a f) : SoundE X (.BoolOp op [a] pos) f := fun _ _ _ _ _ _ _ _ _ _ _ rel hf q => (pe_one (we_pe X a)).we (ha rel hf q)
theorem s_andE {a b : Expr} {rest : List Expr} {f : VF} {g : EF} {pos : Pos} (ha : SoundV X a f) (hb : SoundE X (.BoolOp .And (b :: rest) pos) g) : SoundE X (.BoolOp .And (a :: b :: rest) pos) (andE f g) := by
  intro β Oo H0 O σ H env st r st' Q rel h q
  obtain ⟨⟨d, s1⟩, e1, h⟩ := bind1 h
  obtain ⟨k, e2, h⟩ := bind1 h
  cases boolOf_ok e2
  refine (pe_and (we_pe X a) (we_pe X _)).we (ha rel e1 fun v H1 sb1 bg1 tv => ?_)
  cases tv
  refine ⟨_, rfl, ?_⟩
  cases k with
  | false => cases h; exact iteF (q _ _ sb1 bg1 (.bl _))
  | true => exact iteT (hb (rel.step sb1 bg1) h fun v H2 sb2 bg2 rs => q _ _ (sb1.trans sb2) bg2 (rs.back sb1))
theorem s_orE {a b : Expr} {rest : List Expr} {f : VF} {g : EF} {pos : Pos} (ha : SoundV X a f) (hb : SoundE X (.BoolOp .Or (b :: rest) pos) g) : SoundE X (.BoolOp .Or (a :: b :: rest) pos) (orE f g) := by
  intro β Oo H0 O σ H env st r st' Q rel h q
  obtain ⟨⟨d, s1⟩, e1, h⟩ := bind1 h
  obtain ⟨k, e2, h⟩ := bind1 h
  cases boolOf_ok e2
  refine (pe_or (we_pe X a) (we_pe X _)).we (ha rel e1 fun v H1 sb1 bg1 tv => ?_)
  cases tv
  refine ⟨_, rfl, ?_⟩
  cases k with
  | true => cases h; exact iteT (q _ _ sb1 bg1 (.bl _))
  | false => exact iteF (hb (rel.step sb1 bg1) h fun v H2 sb2 bg2 rs => q _ _ (sb1.trans sb2) bg2 (rs.back sb1))
def ifE (c : TF) (f g : EF) (env : Env') (st : BSt) : Option (R × BSt) := (c env st).bind fun p => if p.1 then f env p.2 else g env p.2
theorem s_if {c a b : Expr} {k : TF} {f g : EF} {pos : Pos} (hc : SoundT X c k) (ha : SoundE X a f) (hb : SoundE X b g) : SoundE X (.IfExp c a b pos) (ifE k f g) := by
  intro β Oo H0 O σ H env st r st' Q rel h q
  obtain ⟨⟨d, s1⟩, e1, h⟩ := bind1 h
  refine (pe_ifExp (wt_pt X c) (we_pe X a) (we_pe X b)).we (hc rel e1 fun H1 sb1 bg1 => ?_)
  cases d with
  | true => exact iteT (ha (rel.step sb1 bg1) h fun v H2 sb2 bg2 rs => q _ _ (sb1.trans sb2) bg2 (rs.back sb1))
  | false => exact iteF (hb (rel.step sb1 bg1) h fun v H2 sb2 bg2 rs => q _ _ (sb1.trans sb2) bg2 (rs.back sb1))
end
end Iv

set_option maxHeartbeats 4000000
namespace Iv
open PySem PySem.Spec PyProof.Rows L2
def noStar : Expr → Bool
  | .Starred .. => false
  | _ => true
theorem noStar_ok {e : Expr} (h : noStar e = true) (es : List Expr) (env : Env) : starEach (e :: es) env = (false, eval e env) :: starEach es env := by
  cases e <;> first | rfl | cases h
theorem noStars_any {env : Env} {pos : Pos} : ∀ {es : List Expr}, es.all noStar = true → (backTo pos (starEach es env)).any (·.1) = false
  | [], _ => rfl
  | e :: es, h => by
    simp only [List.all_cons, Bool.and_eq_true] at h
    rw [noStar_ok h.1]
    have := noStars_any (env := env) (pos := pos) h.2
    unfold backTo at this ⊢
    simp only [List.map_cons, List.any_cons, Bool.false_or]
    exact this
def argsF : List EF → Env' → BSt → Option (List R × BSt)
  | [], _, st => some ([], st)
  | f :: fs, env, st => (f env st).bind fun p => (argsF fs env p.2).map fun q => (p.1.down :: q.1, q.2)
section
variable {F : FT} {S : Sx} {X : Cx}
theorem s_args0 : SoundA X [] (argsF []) := by
  intro β Oo H0 O σ H env st rs st' Q rel h q
  cases h
  exact pa_nil.wa (q [] H SB.refl rel.bag .nil)
theorem ArgsAt.mono {K : PySem.W.Frag} {β : Option Addr} {O O' : Addr → Prop} {H H' : Hp} (e : Same (Fz O H) (Fz O' H')) (hb : SB β H H') : ∀ {vs : List V} {rs : List R}, ArgsAt K β O H vs rs → ArgsAt K β O' H' vs rs
  | _, _, .nil => .nil
  | _, _, .cons a b => .cons (a.mono e hb) (ArgsAt.mono e hb b)
theorem s_args {e : Expr} {es : List Expr} {f : EF} {fs : List EF} (hn : noStar e = true) (he : SoundE X e f) (hs : SoundA X es (argsF fs)) : SoundA X (e :: es) (argsF (f :: fs)) := by
  intro β Oo H0 O σ H env st rs st' Q rel h q
  obtain ⟨⟨r, s1⟩, e1, h⟩ := bind1 h
  obtain ⟨⟨rs', s2⟩, e2, h⟩ := map1 h
  cases h
  refine (pa_cons (we_pe X e) (wa_pa X es) (noStar_ok hn es X.env)).wa (he rel e1 fun v H1 sb1 bg1 rv => ?_)
  have rel1 := rel.step sb1 bg1
  refine hs rel1 e2 fun vs H2 sb2 bg2 rvs => ?_
  exact q _ _ (sb1.trans sb2) bg2 (.cons ((argAt_of rel rv).mono (rel1.fzm sb2) sb2) rvs)
def dsOf : List R → Option (List D)
  | [] => some []
  | .fz d :: rs => (dsOf rs).map (d :: ·)
  | _ :: _ => none
theorem dsOf_ok {K : PySem.W.Frag} {β : Option Addr} {O : Addr → Prop} {H : Hp} : ∀ {vs : List V} {rs : List R} {ds : List D}, dsOf rs = some ds → ArgsAt K β O H vs rs → RpAll K (Fz O H) vs ds
  | _, [], _, h, .nil => by cases h; exact .nil
  | _, .fz d :: rs, _, h, .cons a b => by
    obtain ⟨ds', e, rfl⟩ := map1 h
    exact .cons a.2 (dsOf_ok e b)
  | _, .ow _ :: _, _, h, _ => by cases h
  | _, .bag :: _, _, h, _ => by cases h
  | _, .scr _ :: _, _, h, _ => by cases h
def tupF (f : AF) (env : Env') (st : BSt) : Option (R × BSt) := (f env st).bind fun p => (dsOf p.1).bind fun ds => if lenOk ds.length then some (.fz (.tuple ds), p.2) else none
def lstF (f : AF) (env : Env') (st : BSt) : Option (R × BSt) := (f env st).bind fun p => (dsOf p.1).bind fun ds => if lenOk ds.length then some (.ow (.list ds), p.2) else none
theorem s_tup {es : List Expr} {f : AF} {k : Nat} {pos : Pos} (h : SoundA X es f) : SoundE X (.Tuple es k pos) (tupF f) := by
  intro β Oo H0 O σ H env st r st' Q rel hf q
  obtain ⟨⟨rs, s1⟩, e1, hf⟩ := bind1 hf
  obtain ⟨ds, e2, hf⟩ := bind1 hf
  obtain ⟨c, hf⟩ := ite_some hf
  cases hf
  refine (pe_tup (wa_pa X es)).we (h rel e1 fun vs H1 sb1 bg1 av => ?_)
  have rel1 := rel.step sb1 bg1
  have rp := dsOf_ok e2 av
  refine ⟨by rw [rp.length]; exact of_decide_eq_true c, fun p hp => ?_⟩
  exact q _ _ (sb1.trans (SB.laid hp)) (same_bag (same_laid hp) bg1) ((fresh_tup hp rel1.dom rp).back sb1)
theorem s_lst {es : List Expr} {f : AF} {pos : Pos} (h : SoundA X es f) : SoundE X (.List es pos) (lstF f) := by
  intro β Oo H0 O σ H env st r st' Q rel hf q
  obtain ⟨⟨rs, s1⟩, e1, hf⟩ := bind1 hf
  obtain ⟨ds, e2, hf⟩ := bind1 hf
  obtain ⟨c, hf⟩ := ite_some hf
  cases hf
  refine (pe_lst (wa_pa X es)).we (h rel e1 fun vs H1 sb1 bg1 av => ?_)
  have rel1 := rel.step sb1 bg1
  have rp := dsOf_ok e2 av
  refine ⟨by rw [rp.length]; exact of_decide_eq_true c, fun p hp => ?_⟩
  exact q _ _ (sb1.trans (SB.laid hp)) (same_bag (same_laid hp) bg1) ((fresh_list hp rel1.dom (rel1.neB hp) rp).back sb1)
/-! ### calls of own defs -/
def callF (F : FT) (x : Str) (f : AF) (env : Env') (st : BSt) : Option (R × BSt) := (f env st).bind fun p => F x p.1 p.2
theorem paired_length {α γ : Type} {P : α → γ → Prop} : ∀ {l : List α} {m : List γ}, Paired P l m → l.length = m.length
  | _, _, .nil => rfl
  | _, _, .cons _ t => by simp [paired_length t]
theorem s_call (C : CxS F S X) {x : Str} {e : Expr} {es : List Expr} {f : AF} {p pos : Pos} (hx : isFn S x = true) (hn : noStar e = true) (hns : es.all noStar = true) (h : SoundA X (e :: es) f)
    : SoundE X (.Call (.Name x p) (e :: es) [] pos) (callF F x f) := by
  intro β Oo H0 O σ H env st r st' Q rel hf q
  obtain ⟨⟨rs, s1⟩, e1, hf⟩ := bind1 hf
  obtain ⟨g, ⟨k, fa, fd, ps, h1, h2, h3, h4, h5, h6⟩, hd⟩ := isFn_ok C hx
  refine (pe_call (E := E0) h5 h4 g h1 h2 h3 .nil pass0 (wa_pa X (e :: es)) hd (noStar_ok hn es X.env) (noStars_any hns)).we (h rel e1 fun vs H1 sb1 bg1 av => ?_)
  have rel1 := rel.step sb1 bg1
  rw [List.append_nil]
  refine ⟨by rw [paired_length av]; exact h6 _ _ _ hf, β, O, rs, s1, r, st', av, rel1.bO', rel1.dom, bg1, hf, fun v H2 sb2 bg2 rv => ?_⟩
  exact q _ _ (sb1.trans sb2) bg2 (rv.back sb1)
theorem call_str_bl : CallR X (.type "str") (fun xs H Q => ∃ b, xs = [.bl b] ∧ Q (.str (if b then "True" else "False")) H) := by
  intro pins s σ H xs us Q I r h
  obtain ⟨b, rfl, q⟩ := h
  obtain ⟨u, rfl, rb⟩ := vals1 r
  cases rb
  exact PySem.P.str_of_bool ⟨.str _, H, I.tok _, ⟨_, rfl⟩, q⟩
/-! ### built-ins of one argument, of two -/
def Wc (X : Cx) (f : Value) : List V → Hp → VK → Prop := fun vs H Q => ∀ pins s σ us, Inv X pins σ H s → Vals vs us → wpAny (model X.prog X.w) X.A (call f us) (EP X pins σ Q) X.xe s
theorem wc_call (X : Cx) (f : Value) : CallR X f (Wc X f) := fun pins s σ H vs us Q I r h => h pins s σ us I r
theorem wc_of {f : Value} {r : List V → Hp → VK → Prop} {vs : List V} {H : Hp} {Q : VK} (h : CallR X f r) (q : r vs H Q) : Wc X f vs H Q := fun pins s σ us I rv => h pins s σ H vs us Q I rv q
inductive Bl where
  | len | abs | all | list | tuple | str | sum | sorted | max2 | min2
def bl1 (S : Sx) (x : Str) : Option Bl :=
  if isBlt S x then
    if x = "len" then some .len else if x = "abs" then some .abs else if x = "all" then some .all else if x = "list" then some .list else if x = "tuple" then some .tuple else if x = "str" then some .str
    else if x = "sum" then some .sum else if x = "sorted" then some .sorted else none
  else none
def bl2 (S : Sx) (x : Str) : Option Bl :=
  if isBlt S x then if x = "max" then some .max2 else if x = "min" then some .min2 else none else none
def boolsOf : List D → Option (List Bool)
  | [] => some []
  | .bool b :: ds => (boolsOf ds).map (b :: ·)
  | _ :: _ => none
def intsOf : List D → Option (List Int)
  | [] => some []
  | .int b :: ds => (intsOf ds).map (b :: ·)
  | _ :: _ => none
theorem boolsOf_ok : ∀ {ds : List D} {bs : List Bool}, boolsOf ds = some bs → ds = bs.map .bool
  | [], _, h => by cases h; rfl
  | .bool b :: ds, _, h => by obtain ⟨bs, e, rfl⟩ := map1 h; rw [boolsOf_ok e]; rfl
  | .none :: _, _, h => by cases h
  | .int _ :: _, _, h => by cases h
  | .str _ :: _, _, h => by cases h
  | .list _ :: _, _, h => by cases h
  | .tuple _ :: _, _, h => by cases h
  | .dict _ :: _, _, h => by cases h
theorem intsOf_ok : ∀ {ds : List D} {bs : List Int}, intsOf ds = some bs → ds = bs.map .int
  | [], _, h => by cases h; rfl
  | .int b :: ds, _, h => by obtain ⟨bs, e, rfl⟩ := map1 h; rw [intsOf_ok e]; rfl
  | .none :: _, _, h => by cases h
  | .bool _ :: _, _, h => by cases h
  | .str _ :: _, _, h => by cases h
  | .list _ :: _, _, h => by cases h
  | .tuple _ :: _, _, h => by cases h
  | .dict _ :: _, _, h => by cases h
/-- sorting, in plain words -/
def ins (x : Int) : List Int → List Int
  | [] => [x]
  | y :: ys => if x ≤ y then x :: y :: ys else y :: ins x ys
def isort : List Int → List Int
  | [] => []
  | x :: xs => ins x (isort xs)
theorem ins_perm (x : Int) : ∀ l : List Int, (ins x l).Perm (x :: l)
  | [] => .refl _
  | y :: ys => by
    unfold ins
    split
    · exact .refl _
    · exact ((ins_perm x ys).cons y).trans (.swap x y ys)
theorem isort_perm : ∀ l : List Int, (isort l).Perm l
  | [] => .refl _
  | x :: xs => (ins_perm x _).trans ((isort_perm xs).cons x)
theorem ins_sorted (x : Int) : ∀ l : List Int, l.Pairwise (· ≤ ·) → (ins x l).Pairwise (· ≤ ·)
  | [], _ => List.pairwise_singleton _ _
  | y :: ys, h => by
    obtain ⟨h1, h2⟩ := List.pairwise_cons.mp h
    unfold ins
    split
    · rename_i hxy
      exact List.pairwise_cons.mpr ⟨fun z hz => by
        rcases List.mem_cons.mp hz with rfl | hz
        · exact hxy
        · exact Int.le_trans hxy (h1 z hz), h⟩
    · rename_i hxy
      refine List.pairwise_cons.mpr ⟨fun z hz => ?_, ins_sorted x ys h2⟩
      rcases List.mem_cons.mp ((ins_perm x ys).mem_iff.mp hz) with rfl | hz
      · omega
      · exact h1 z hz
theorem isort_sorted : ∀ l : List Int, (isort l).Pairwise (· ≤ ·)
  | [] => .nil
  | x :: xs => ins_sorted x _ (isort_sorted xs)
theorem sorted_unique : ∀ {a b : List Int}, a.Perm b → a.Pairwise (· ≤ ·) → b.Pairwise (· ≤ ·) → a = b
  | [], b, p, _, _ => by rw [List.nil_perm.mp p]
  | x :: a, [], p, _, _ => by simp at p
  | x :: a, y :: b, p, ha, hb => by
    obtain ⟨h1, h2⟩ := List.pairwise_cons.mp ha
    obtain ⟨h3, h4⟩ := List.pairwise_cons.mp hb
    have xy : x = y := by
      have i1 : y ≤ x := by
        rcases List.mem_cons.mp (p.mem_iff.mp List.mem_cons_self) with e | e
        · omega
        · exact h3 x e
      have i2 : x ≤ y := by
        rcases List.mem_cons.mp (p.mem_iff.mpr List.mem_cons_self) with e | e
        · omega
        · exact h1 y e
      omega
    subst xy
    rw [sorted_unique (List.perm_cons _ |>.mp p) h2 h4]
theorem isort_eq {ns ns' : List Int} (p : ns'.Perm ns) (s : ns'.Pairwise (· ≤ ·)) : ns' = isort ns := sorted_unique (p.trans (isort_perm ns).symm) s (isort_sorted ns)
def keysI : List (D × D) → Option (List Int)
  | [] => some []
  | (.int i, _) :: r => (keysI r).map (i :: ·)
  | _ :: _ => none
theorem keysI_ok : ∀ {kds : List (D × D)} {is : List Int}, keysI kds = some is → kds.map (·.1) = is.map .int
  | [], _, h => by cases h; rfl
  | (.int i, _) :: r, _, h => by obtain ⟨is, e, rfl⟩ := map1 h; simp [keysI_ok e]
  | (.none, _) :: r, _, h => by cases h
  | (.bool _, _) :: r, _, h => by cases h
  | (.str _, _) :: r, _, h => by cases h
  | (.list _, _) :: r, _, h => by cases h
  | (.tuple _, _) :: r, _, h => by cases h
  | (.dict _, _) :: r, _, h => by cases h
theorem kD_ints : ∀ {ks : List Key} {is : List Int}, is.map PyData.int = ks.map kD → ks = is.map Sum.inl
  | [], [], _ => rfl
  | .inl k :: ks, i :: is, h => by
    simp only [List.map_cons, List.cons.injEq, kD, PyData.int.injEq] at h
    rw [kD_ints h.2, ← h.1]; rfl
  | .inr k :: ks, i :: is, h => by simp [kD] at h
  | [], i :: is, h => by simp at h
  | k :: ks, [], h => by simp at h
def blD1 : Bl → D → Option R
  | .len, .list ds => some (.fz (.int ds.length))
  | .len, .tuple ds => some (.fz (.int ds.length))
  | .len, .str x => if lenOk x.length then some (.fz (.int x.length)) else none
  | .abs, .int i => some (.fz (.int (if i < 0 then -i else i)))
  | .all, .list ds => (boolsOf ds).map fun bs => .fz (.bool (bs.all id))
  | .list, .list ds => some (.ow (.list ds))
  | .list, .tuple ds => some (.ow (.list ds))
  | .tuple, .list ds => some (.fz (.tuple ds))
  | .tuple, .tuple ds => some (.fz (.tuple ds))
  | .str, .int i => if decide (i.natAbs.log2 < 1920) then some (.fz (.str (toString i))) else none
  | .str, .bool b => some (.fz (.str (if b then "True" else "False")))
  | .sum, .list ds => (intsOf ds).map fun ns => .fz (.int ns.sum)
  | .sorted, .list ds => (intsOf ds).bind fun ns => if decide (ns.length < 64) then some (.ow (.list ((isort ns).map .int))) else none
  | .sorted, .dict kds => (keysI kds).bind fun ns => if decide (ns.length < 64) then some (.ow (.list ((isort ns).map .int))) else none
  | _, _ => none
def blD2 : Bl → D → D → Option R
  | .max2, .int i, .int j => some (.fz (.int (if j > i then j else i)))
  | .min2, .int i, .int j => some (.fz (.int (if j < i then j else i)))
  | _, _, _ => none
def blV : Bl → Value
  | .len => .builtin "len" | .abs => .builtin "abs" | .all => .builtin "all" | .list => .type "list" | .tuple => .type "tuple" | .str => .type "str"
  | .sum => .builtin "sum" | .sorted => .builtin "sorted" | .max2 => .builtin "max" | .min2 => .builtin "min"
section
variable {β : Option Addr} {O : Addr → Prop} {H : Hp} {Q : VK}
theorem blD1_ok (hc : X.calm = true) {b : Bl} {d : D} {v : V} {r : R} (hO : ∀ a, O a → H a ≠ none) (hb : ∀ b, β = some b → O b) (h : blD1 b d = some r) (hv : TopAt X.K β O H v d)
    (q : ∀ v H', Same H H' → ResAt X.K β O H H' v r → Q v H') : Wc X (blV b) [v] H Q := by
  have nb : ∀ p, H p = none → β ≠ some p := fun p hp z => hO p (hb p z) hp
  unfold blD1 at h
  split at h
  · cases h; obtain ⟨a, xs, rfl, _, h1, h2⟩ := hv
    exact wc_of call_len_seq ⟨_, _, rfl, .inl (SqL.of h1), q _ _ (Same.refl _) (by rw [h2.length]; exact .int _)⟩
  · cases h; obtain ⟨a, xs, rfl, h1, h2⟩ := rp_tup hv
    exact wc_of call_len_seq ⟨_, _, rfl, .inr (fz_tup h1), q _ _ (Same.refl _) (by rw [h2.length]; exact .int _)⟩
  · obtain ⟨c, rfl⟩ := ite_some h; cases hv
    exact wc_of call_len_str ⟨_, rfl, of_decide_eq_true c, q _ _ (Same.refl _) (.int _)⟩
  · cases h; cases hv
    exact wc_of call_abs ⟨_, rfl, q _ _ (Same.refl _) (.int _)⟩
  · obtain ⟨bs, e, rfl⟩ := map1 h
    obtain ⟨a, xs, rfl, _, h1, h2⟩ := hv
    rw [boolsOf_ok e] at h2
    rw [h2.bools] at h1
    exact wc_of (cr_all hc) ⟨_, _, rfl, SqL.of h1, q _ _ (Same.refl _) (.bl _)⟩
  · cases h; obtain ⟨a, xs, rfl, _, h1, h2⟩ := hv
    exact wc_of call_list_of ⟨_, _, rfl, .inl (SqL.of h1), fun p hp => q _ _ (same_laid hp) (fresh_list hp hO (nb p hp) h2)⟩
  · cases h; obtain ⟨a, xs, rfl, h1, h2⟩ := rp_tup hv
    exact wc_of call_list_of ⟨_, _, rfl, .inr (fz_tup h1), fun p hp => q _ _ (same_laid hp) (fresh_list hp hO (nb p hp) h2)⟩
  · cases h; obtain ⟨a, xs, rfl, _, h1, h2⟩ := hv
    exact wc_of call_tuple_of ⟨_, _, rfl, .inl ⟨SqL.of h1, fun p hp => q _ _ (same_laid hp) (fresh_tup hp hO h2)⟩⟩
  · cases h; obtain ⟨a, xs, rfl, h1, h2⟩ := rp_tup hv
    exact wc_of call_tuple_of ⟨_, _, rfl, .inr ⟨fz_tup h1, q _ _ (Same.refl _) (.tup h1 h2)⟩⟩
  · obtain ⟨c, rfl⟩ := ite_some h; cases hv
    exact wc_of call_str_int ⟨_, rfl, of_decide_eq_true c, q _ _ (Same.refl _) (.str _)⟩
  · cases h; cases hv
    exact wc_of call_str_bl ⟨_, rfl, q _ _ (Same.refl _) (.str _)⟩
  · obtain ⟨bs, e, rfl⟩ := map1 h
    obtain ⟨a, xs, rfl, _, h1, h2⟩ := hv
    rw [intsOf_ok e] at h2
    rw [h2.ints] at h1
    exact wc_of (cr_sum hc) ⟨_, _, rfl, SqL.of h1, q _ _ (Same.refl _) (.int _)⟩
  · obtain ⟨ns, e, h⟩ := bind1 h
    obtain ⟨c, rfl⟩ := ite_some h
    obtain ⟨a, xs, rfl, _, h1, h2⟩ := hv
    rw [intsOf_ok e] at h2
    rw [h2.ints] at h1
    refine wc_of cr_sorted ⟨_, _, rfl, SqL.of h1, of_decide_eq_true c, fun ns' p hp hs hn => ?_⟩
    rw [isort_eq hp hs]
    exact q _ _ (same_laid hn) (fresh_list hn hO (nb p hn) (RpAll.of_ints _))
  · obtain ⟨ns, e, h⟩ := bind1 h
    obtain ⟨c, rfl⟩ := ite_some h
    obtain ⟨a, kvs, rfl, _, h1, h2, h3⟩ := hv
    rw [keysI_ok e] at h2
    have hk : kvs.map (·.1) = ns.map Sum.inl := kD_ints (by rw [h2, List.map_map]; rfl)
    refine wc_of (call_sortedDI hc) ⟨_, _, ns, rfl, .inl h1, hk, of_decide_eq_true c, fun ns' p hp hs hn => ?_⟩
    rw [isort_eq hp hs]
    exact q _ _ (same_laid hn) (fresh_list hn hO (nb p hn) (RpAll.of_ints _))
  · cases h
theorem blD2_ok (hc : X.calm = true) {b : Bl} {d e : D} {v u : V} {r : R} (h : blD2 b d e = some r) (hv : TopAt X.K β O H v d) (hu : TopAt X.K β O H u e)
    (q : ∀ v H', Same H H' → ResAt X.K β O H H' v r → Q v H') : Wc X (blV b) [v, u] H Q := by
  unfold blD2 at h
  split at h
  · cases h; cases hv; cases hu
    exact wc_of (call_max2 hc) ⟨_, _, rfl, q _ _ (Same.refl _) (.int _)⟩
  · cases h; cases hv; cases hu
    exact wc_of (call_min2 hc) ⟨_, _, rfl, q _ _ (Same.refl _) (.int _)⟩
  · cases h
end
def bltF1 (b : Bl) (f : VF) (env : Env') (st : BSt) : Option (R × BSt) := (f env st).bind fun p => (blD1 b p.1).map fun r => (r, p.2)
def bltF2 (b : Bl) (f g : VF) (env : Env') (st : BSt) : Option (R × BSt) := (f env st).bind fun p => (g env p.2).bind fun q => (blD2 b p.1 q.1).map fun r => (r, q.2)
theorem bl1_call (C : CxS F S X) {x : Str} {b : Bl} {e : Expr} {p pos : Pos} (h : bl1 S x = some b) (hn : noStar e = true) : PE X (.Call (.Name x p) [e] [] pos) (tCB (Wc X (blV b)) (tCons (We X e) tNil)) := by
  unfold bl1 at h
  cases hb : isBlt S x with
  | false => rw [hb] at h; cases h
  | true =>
    rw [hb] at h
    obtain ⟨g, m, n, d⟩ := isBlt_ok C hb
    have hs := noStar_ok hn [] X.env
    have ha : PA X [e] (tCons (We X e) tNil) := pa_cons (we_pe X e) pa_nil hs
    have hp : (backTo pos (starEach [] X.env)).any (·.1) = false := rfl
    simp only [if_true] at h
    split at h
    · rename_i ex; subst ex; cases h; exact pe_callB (wc_call X _) g m PySem.boot_len ha n d hs hp
    split at h
    · rename_i ex; subst ex; cases h; exact pe_callB (wc_call X _) g m PyProof.Rows.boot_abs ha n d hs hp
    split at h
    · rename_i ex; subst ex; cases h; exact pe_callB (wc_call X _) g m PyProof.Rows.boot_all ha n d hs hp
    split at h
    · rename_i ex; subst ex; cases h; exact pe_callTy (wc_call X _) g m PyProof.Rows.boot_list ha n d hs hp
    split at h
    · rename_i ex; subst ex; cases h; exact pe_callTy (wc_call X _) g m PyProof.Rows.boot_tuple ha n d hs hp
    split at h
    · rename_i ex; subst ex; cases h; exact pe_callTy (wc_call X _) g m PyProof.Rows.boot_str ha n d hs hp
    split at h
    · rename_i ex; subst ex; cases h; exact pe_callB (wc_call X _) g m PyProof.Rows.boot_sum ha n d hs hp
    split at h
    · rename_i ex; subst ex; cases h; exact pe_callB (wc_call X _) g m PyProof.Rows.boot_sorted ha n d hs hp
    · cases h
theorem bl2_call (C : CxS F S X) {x : Str} {b : Bl} {e e' : Expr} {p pos : Pos} (h : bl2 S x = some b) (hn : noStar e = true) (hn' : noStar e' = true) : PE X (.Call (.Name x p) [e, e'] [] pos) (tCB (Wc X (blV b)) (tCons (We X e) (tCons (We X e') tNil))) := by
  unfold bl2 at h
  cases hb : isBlt S x with
  | false => rw [hb] at h; cases h
  | true =>
    rw [hb] at h
    obtain ⟨g, m, n, d⟩ := isBlt_ok C hb
    have hs := noStar_ok hn [e'] X.env
    have hs' := noStar_ok hn' [] X.env
    have ha : PA X [e, e'] (tCons (We X e) (tCons (We X e') tNil)) := pa_cons (we_pe X e) (pa_cons (we_pe X e') pa_nil hs') hs
    have hp : (backTo pos (starEach [e'] X.env)).any (·.1) = false := noStars_any (by simp [hn'])
    simp only [if_true] at h
    split at h
    · rename_i ex; subst ex; cases h; exact pe_callB (wc_call X _) g m PyProof.Rows.boot_max ha n d hs hp
    split at h
    · rename_i ex; subst ex; cases h; exact pe_callB (wc_call X _) g m PyProof.Rows.boot_min ha n d hs hp
    · cases h
theorem s_blt1 (C : CxS F S X) {x : Str} {b : Bl} {e : Expr} {p pos : Pos} {f : VF} (h : bl1 S x = some b) (hn : noStar e = true) (he : SoundV X e f) : SoundE X (.Call (.Name x p) [e] [] pos) (bltF1 b f) := by
  intro β Oo H0 O σ H env st r st' Q rel hf q
  obtain ⟨⟨d, s1⟩, e1, hf⟩ := bind1 hf
  obtain ⟨r', e2, hf⟩ := map1 hf
  cases hf
  refine (bl1_call C h hn).we (he rel e1 fun v H1 sb1 bg1 tv => ?_)
  have rel1 := rel.step sb1 bg1
  exact blD1_ok C.calm rel1.dom rel1.bO' e2 tv fun v H2 sm rs => q _ _ (sb1.trans (same_sb sm)) (same_bag sm bg1) (rs.back sb1)
theorem s_blt2 (C : CxS F S X) {x : Str} {b : Bl} {e e' : Expr} {p pos : Pos} {f g : VF} (h : bl2 S x = some b) (hn : noStar e = true) (hn' : noStar e' = true) (he : SoundV X e f) (he' : SoundV X e' g) : SoundE X (.Call (.Name x p) [e, e'] [] pos) (bltF2 b f g) := by
  intro β Oo H0 O σ H env st r st' Q rel hf q
  obtain ⟨⟨d, s1⟩, e1, hf⟩ := bind1 hf
  obtain ⟨⟨d', s2⟩, e2, hf⟩ := bind1 hf
  obtain ⟨r', e3, hf⟩ := map1 hf
  cases hf
  refine (bl2_call C h hn hn').we (he rel e1 fun v H1 sb1 bg1 tv => ?_)
  have rel1 := rel.step sb1 bg1
  refine he' rel1 e2 fun u H2 sb2 bg2 tu => ?_
  have rel2 := rel1.step sb2 bg2
  exact blD2_ok C.calm e3 (tv.mono (rel1.fzm sb2) sb2) tu fun v H3 sm rs => q _ _ (sb1.trans (sb2.trans (same_sb sm))) (same_bag sm bg2) (rs.back (sb1.trans sb2))
end
end Iv

set_option maxHeartbeats 4000000
namespace Iv
open PySem PySem.Spec PyProof.Rows L2
section
variable {F : FT} {S : Sx} {X : Cx}
/-! ### x[i] -/
def ixD : D → D → Option D
  | .list ds, .int i => atI ds i
  | .tuple ds, .int i => atI ds i
  | _, _ => none
theorem atI_rp {K : PySem.W.Frag} {H : Hp} {vs : List V} {ds : List D} {i : Int} {d : D} (h : RpAll K H vs ds) (e : atI ds i = some d) : ∃ v, atI vs i = some v ∧ Rp K H v d := by
  unfold atI at e ⊢
  rw [h.length]
  obtain ⟨j, e1, e2⟩ := bind1 e
  obtain ⟨v, h1, h2⟩ := h.get e2
  exact ⟨v, by rw [e1]; exact h1, h2⟩
def plainIx : Expr → Bool
  | .Slice .. => false
  | _ => true
theorem plainIx_ok {b : Expr} (h : plainIx b = true) : PlainIx b := by
  intro o i
  cases b <;> first | rfl | cases h
def ixF (f g : VF) (env : Env') (st : BSt) : Option (R × BSt) := (f env st).bind fun p => (g env p.2).bind fun q => (ixD p.1 q.1).map fun r => (.fz r, q.2)
theorem s_ix {a b : Expr} {f g : VF} {pos : Pos} (hp : plainIx b = true) (ha : SoundV X a f) (hb : SoundV X b g) : SoundE X (.Subscript a b pos) (ixF f g) := by
  intro β Oo H0 O σ H env st r st' Q rel h q
  obtain ⟨⟨d, s1⟩, e1, h⟩ := bind1 h
  obtain ⟨⟨e, s2⟩, e2, h⟩ := bind1 h
  obtain ⟨r', e3, h⟩ := map1 h
  cases h
  refine (pe_ix ix_seq (we_pe X a) (we_pe X b) (plainIx_ok hp)).we (ha rel e1 fun x H1 sb1 bg1 tx => ?_)
  have rel1 := rel.step sb1 bg1
  refine hb rel1 e2 fun y H2 sb2 bg2 ty => ?_
  have tx := tx.mono (rel1.fzm sb2) sb2
  dsimp only at e3
  unfold ixD at e3
  split at e3
  · obtain ⟨l, xs, rfl, _, h1, h2⟩ := tx
    cases ty
    obtain ⟨v, hv, rv⟩ := atI_rp h2 e3
    exact .inl ⟨_, _, _, _, rfl, rfl, SqL.of h1, hv, q _ _ (sb1.trans sb2) bg2 rv⟩
  · obtain ⟨l, xs, rfl, h1, h2⟩ := rp_tup tx
    cases ty
    obtain ⟨v, hv, rv⟩ := atI_rp h2 e3
    exact .inr (.inl ⟨_, _, _, _, rfl, rfl, fz_tup h1, hv, q _ _ (sb1.trans sb2) bg2 rv⟩)
  · cases e3
/-- an item of the bag, of the script -/
def ixN' (S : Sx) (x : Str) (g : VF) (env : Env') (st : BSt) : Option (R × BSt) := match slotOf S x with
  | some i => (match env[i]? with
    | some (some .bag) => (g env st).bind fun p => (match p.2, p.1 with
      | some b, .int 0 => some (.fz (.int b.1), p.2)
      | some b, .int 1 => some (.fz (.int b.2), p.2)
      | _, _ => none)
    | some (some (.scr ns)) => (g env st).bind fun p => (match p.1 with
      | .int i => (atI ns i).map fun n => (.fz (.int n), p.2)
      | _ => none)
    | _ => none)
  | none => none
theorem atI_map {α γ : Type} (f : α → γ) (l : List α) (i : Int) : atI (l.map f) i = (atI l i).map f := by
  unfold atI
  rw [List.length_map]
  cases ixN l.length i with
  | none => rfl
  | some j => simp
theorem s_ixN (C : CxS F S X) {x : Str} {b : Expr} {g : VF} {p pos : Pos} (hp : plainIx b = true) (hb : SoundV X b g) : SoundE X (.Subscript (.Name x p) b pos) (ixN' S x g) := by
  intro β Oo H0 O σ H env st r st' Q rel h q
  unfold ixN' at h
  cases e : slotOf S x with
  | none => rw [e] at h; cases h
  | some i =>
    rw [e] at h
    obtain ⟨h1, h2, h3, h4⟩ := slotOf_ok C e
    simp only at h
    split at h
    · rename_i e2
      obtain ⟨⟨d, s1⟩, e3, h⟩ := bind1 h
      obtain ⟨v, hv, b0, hβ, rfl⟩ := rel.sl i _ e2
      refine (pe_ix ix_list (pe_var h1 h2 h3 h4) (we_pe X b) (plainIx_ok hp)).we ⟨_, hv, hb rel e3 fun y H1 sb1 bg1 ty => ?_⟩
      obtain ⟨bg, bs, eb0, hbag⟩ := bg1.get hβ
      dsimp only at h
      split at h
      · cases h; cases ty
        cases eb0
        exact ⟨_, _, _, _, rfl, rfl, SqL.of hbag, rfl, q _ _ sb1 bg1 (.int _)⟩
      · cases h; cases ty
        cases eb0
        exact ⟨_, _, _, _, rfl, rfl, SqL.of hbag, rfl, q _ _ sb1 bg1 (.int _)⟩
      · cases h
    · rename_i ns e2
      obtain ⟨⟨d, s1⟩, e3, h⟩ := bind1 h
      obtain ⟨v, hv, a0, rfl, hs⟩ := rel.sl i _ e2
      refine (pe_ix ix_list (pe_var h1 h2 h3 h4) (we_pe X b) (plainIx_ok hp)).we ⟨_, hv, hb rel e3 fun y H1 sb1 bg1 ty => ?_⟩
      simp only at h
      split at h
      · obtain ⟨n, e4, h⟩ := map1 h
        cases h; cases ty
        exact ⟨_, _, _, _, rfl, rfl, (hs.mono sb1).sq, by rw [atI_map, e4]; rfl, q _ _ sb1 bg1 (.int _)⟩
      · cases h
    · cases h
def lenN (S : Sx) (x : Str) (env : Env') (st : BSt) : Option (R × BSt) := match slotOf S x with
  | some i => (match env[i]? with
    | some (some (.scr ns)) => some (.fz (.int ns.length), st)
    | _ => none)
  | none => none
theorem s_lenN (C : CxS F S X) {x y : Str} {p p' pos : Pos} (hb : bl1 S y = some .len) : SoundE X (.Call (.Name y p) [.Name x p'] [] pos) (lenN S x) := by
  intro β Oo H0 O σ H env st r st' Q rel h q
  unfold lenN at h
  cases e : slotOf S x with
  | none => rw [e] at h; cases h
  | some i =>
    rw [e] at h
    obtain ⟨h1, h2, h3, h4⟩ := slotOf_ok C e
    simp only at h
    split at h
    · rename_i ns e2
      cases h
      obtain ⟨v, hv, a0, rfl, hs⟩ := rel.sl i _ e2
      refine (bl1_call C hb rfl).we ((pe_var h1 h2 h3 h4).we ⟨_, hv, ?_⟩)
      exact wc_of call_len_seq ⟨_, _, rfl, .inl hs.sq, q _ _ SB.refl rel.bag (by rw [List.length_map]; exact .int _)⟩
    · cases h
/-! ### slices -/
def intOpt : Option D → Option (Option Int)
  | none => some none
  | some (.int i) => some (some i)
  | _ => none
abbrev OF := Env' → BSt → Option (Option Int × BSt)
def partF : Option VF → Env' → BSt → Option (Option Int × BSt)
  | none, _, st => some (none, st)
  | some f, env, st => (f env st).bind fun p => match p.1 with | .int i => some (some i, p.2) | _ => none
def Wpo (X : Cx) (e : Option Expr) : TO := fun σ H Q => ∃ t, PO X e t ∧ t σ H Q
def SoundO (X : Cx) (e : Option Expr) (f : OF) : Prop := ∃ t, PO X e t ∧ ∀ ⦃β : Option Addr⦄ ⦃Oo : Addr → Prop⦄ ⦃H0 : Hp⦄ ⦃O : Addr → Prop⦄ ⦃σ : L2.St⦄ ⦃H : Hp⦄ ⦃env : Env'⦄ ⦃st : BSt⦄ ⦃o : Option Int⦄ ⦃st' : BSt⦄ ⦃Q : Option Int → Hp → Prop⦄,
  Rel X.K β Oo H0 O σ H env st → f env st = some (o, st') → (∀ H', SB β H H' → BagAt β H' st' → Q o H') → t σ H Q
theorem s_part0 : SoundO X none (partF none) := ⟨_, po_none, fun _ _ _ _ _ _ _ _ _ _ _ rel h q => by cases h; exact q _ SB.refl rel.bag⟩
theorem s_part {e : Expr} {f : VF} (he : SoundV X e f) : SoundO X (some e) (partF (some f)) := by
  refine ⟨_, po_some (we_pe X e), ?_⟩
  intro β Oo H0 O σ H env st o st' Q rel h q
  obtain ⟨⟨d, s1⟩, e1, h⟩ := bind1 h
  simp only at h
  split at h
  · cases h
    refine he rel e1 fun v H1 sb1 bg1 tv => ?_
    cases tv
    exact ⟨_, rfl, q _ sb1 bg1⟩
  · cases h
def cutL {α : Type} (xs : List α) (lo hi : Option Int) : List α := (xs.drop (HT.sIx xs.length 0 lo)).take (HT.sIx xs.length xs.length hi - HT.sIx xs.length 0 lo)
def slD : D → Option Int → Option Int → Option R
  | .list ds, lo, hi => some (.ow (.list (cutL ds lo hi)))
  | .tuple ds, lo, hi => some (.fz (.tuple (cutL ds lo hi)))
  | .str z, lo, hi => if lenOk z.length then some (.fz (.str (cutS z lo hi))) else none
  | _, _, _ => none
theorem cutL_rp {K : PySem.W.Frag} {H : Hp} {vs : List V} {ds : List D} {lo hi : Option Int} (h : RpAll K H vs ds) : RpAll K H (cutV vs lo hi) (cutL ds lo hi) := by
  unfold cutV cutL
  rw [h.length]
  exact (h.drop _).take _
def slF (f : VF) (l u : OF) (env : Env') (st : BSt) : Option (R × BSt) := (f env st).bind fun p => (l env p.2).bind fun a => (u env a.2).bind fun b => (slD p.1 a.1 b.1).map fun r => (r, b.2)
theorem s_slice {a : Expr} {lo hi : Option Expr} {f : VF} {l u : OF} {p2 pos : Pos} (ha : SoundV X a f) (hl : SoundO X lo l) (hu : SoundO X hi u) : SoundE X (.Subscript a (.Slice lo hi none p2) pos) (slF f l u) := by
  intro β Oo H0 O σ H env st r st' Q rel h q
  obtain ⟨⟨d, s1⟩, e1, h⟩ := bind1 h
  obtain ⟨⟨o1, s2⟩, e2, h⟩ := bind1 h
  obtain ⟨⟨o2, s3⟩, e3, h⟩ := bind1 h
  obtain ⟨r', e4, h⟩ := map1 h
  cases h
  obtain ⟨tl, pl, hl⟩ := hl
  obtain ⟨tu, pu, hu⟩ := hu
  refine (pe_slice (sl_list.or (sl_tupA.or sl_str)) (we_pe X a) pl pu).we (ha rel e1 fun x H1 sb1 bg1 tx => ?_)
  have rel1 := rel.step sb1 bg1
  refine hl rel1 e2 fun H2 sb2 bg2 => ?_
  have rel2 := rel1.step sb2 bg2
  refine hu rel2 e3 fun H3 sb3 bg3 => ?_
  have rel3 := rel2.step sb3 bg3
  have tx := (tx.mono (rel1.fzm sb2) sb2).mono (rel2.fzm sb3) sb3
  have sb := sb1.trans (sb2.trans sb3)
  dsimp only at e4
  unfold slD at e4
  split at e4
  · cases e4
    obtain ⟨a, xs, rfl, _, h1, h2⟩ := tx
    exact .inl ⟨_, _, rfl, SqL.of h1, fun p hp => q _ _ (sb.trans (SB.laid hp)) (same_bag (same_laid hp) bg3) ((fresh_list hp rel3.dom (rel3.neB hp) (cutL_rp h2)).back sb)⟩
  · cases e4
    obtain ⟨a, xs, rfl, h1, h2⟩ := rp_tup tx
    refine .inr (.inl ⟨_, _, rfl, fz_tup h1, fun hw => ?_, fun _ p hp => ?_⟩)
    · refine q _ _ sb bg3 ?_
      have hc : cutV xs o1 o2 = xs := by
        unfold cutV
        rw [hw.1, hw.2]
        simp
      have h3 := cutL_rp (lo := o1) (hi := o2) h2
      rw [hc] at h3
      exact .tup h1 h3
    · exact q _ _ (sb.trans (SB.laid hp)) (same_bag (same_laid hp) bg3) ((fresh_tup hp rel3.dom (cutL_rp h2)).back sb)
  · obtain ⟨c, rfl⟩ := ite_some e4
    cases tx
    exact .inr (.inr ⟨_, rfl, of_decide_eq_true c, q _ _ sb bg3 (.str _)⟩)
  · cases e4
/-! ### t[::-1] -/
def revF (f : VF) (env : Env') (st : BSt) : Option (R × BSt) := (f env st).bind fun p => match p.1 with
  | .tuple ds => some (.fz (.tuple ds.reverse), p.2)
  | _ => none
theorem s_rev {a : Expr} {f : VF} {k : Nat} {p1 p2 p3 pos : Pos} (ha : SoundV X a f) : SoundE X (.Subscript a (.Slice none none (some (.UnaryOp .USub (.Constant (.int 1) k p1) p2)) p3) pos) (revF f) := by
  intro β Oo H0 O σ H env st r st' Q rel h q
  obtain ⟨⟨d, s1⟩, e1, h⟩ := bind1 h
  dsimp only at h
  split at h
  · cases h
    refine (pe_revT (we_pe X a)).we (ha rel e1 fun v H1 sb1 bg1 tv => ?_)
    have rel1 := rel.step sb1 bg1
    obtain ⟨b, xs, rfl, h1, h2⟩ := rp_tup tv
    exact ⟨_, _, rfl, fz_tup h1, fun p hp => q _ _ (sb1.trans (SB.laid hp)) (same_bag (same_laid hp) bg1) ((fresh_tup hp rel1.dom h2.reverse).back sb1)⟩
  · cases h
/-! ### sorted(set(xs)) -/
def uins (x : Int) : List Int → List Int
  | [] => [x]
  | y :: ys => if x < y then x :: y :: ys else if x = y then y :: ys else y :: uins x ys
def usort : List Int → List Int
  | [] => []
  | x :: xs => uins x (usort xs)
theorem uins_mem (x z : Int) : ∀ l : List Int, z ∈ uins x l ↔ z = x ∨ z ∈ l
  | [] => by simp [uins]
  | y :: ys => by
    unfold uins
    split
    · simp
    · split
      · rename_i _ e; subst e; simp
      · simp [uins_mem x z ys]; constructor <;> (intro h; rcases h with h | h | h <;> simp [h])
theorem usort_mem (z : Int) : ∀ l : List Int, z ∈ usort l ↔ z ∈ l
  | [] => by simp [usort]
  | x :: xs => by unfold usort; rw [uins_mem, usort_mem z xs, List.mem_cons]
theorem uins_lt (x : Int) : ∀ l : List Int, l.Pairwise (· < ·) → (uins x l).Pairwise (· < ·)
  | [], _ => List.pairwise_singleton _ _
  | y :: ys, h => by
    obtain ⟨h1, h2⟩ := List.pairwise_cons.mp h
    unfold uins
    split
    · rename_i c
      exact List.pairwise_cons.mpr ⟨fun z hz => by
        rcases List.mem_cons.mp hz with rfl | hz
        · exact c
        · exact Int.lt_trans c (h1 z hz), h⟩
    · split
      · exact h
      · refine List.pairwise_cons.mpr ⟨fun z hz => ?_, uins_lt x ys h2⟩
        rcases (uins_mem x z ys).mp hz with rfl | hz
        · omega
        · exact h1 z hz
theorem usort_lt : ∀ l : List Int, (usort l).Pairwise (· < ·)
  | [] => .nil
  | x :: xs => uins_lt x _ (usort_lt xs)
theorem lt_unique : ∀ {a b : List Int}, a.Pairwise (· < ·) → b.Pairwise (· < ·) → (∀ z, z ∈ a ↔ z ∈ b) → a = b
  | [], [], _, _, _ => rfl
  | [], y :: b, _, _, h => by have := (h y).mpr List.mem_cons_self; cases this
  | x :: a, [], _, _, h => by have := (h x).mp List.mem_cons_self; cases this
  | x :: a, y :: b, ha, hb, h => by
    obtain ⟨h1, h2⟩ := List.pairwise_cons.mp ha
    obtain ⟨h3, h4⟩ := List.pairwise_cons.mp hb
    have xy : x = y := by
      rcases List.mem_cons.mp ((h x).mp List.mem_cons_self) with e | e
      · exact e
      · rcases List.mem_cons.mp ((h y).mpr List.mem_cons_self) with f | f
        · exact f.symm
        · have := h1 y f; have := h3 x e; omega
    subst xy
    congr 1
    refine lt_unique h2 h4 fun z => ?_
    have hz := h z
    simp only [List.mem_cons] at hz
    constructor
    · intro m
      rcases hz.mp (.inr m) with e | e
      · have := h1 z m; omega
      · exact e
    · intro m
      rcases hz.mpr (.inr m) with e | e
      · have := h3 z m; omega
      · exact e
def ssF (f : VF) (env : Env') (st : BSt) : Option (R × BSt) := (f env st).bind fun p => match p.1 with
  | .list ds => (intsOf ds).bind fun ns => if decide (ns.length < 64) then some (.ow (.list ((usort ns).map .int)), p.2) else none
  | _ => none
def isB2 (S : Sx) (n x : Str) : Bool := isBlt S x && decide (x = n)
theorem s_ss (C : CxS F S X) {e : Expr} {x y : Str} {f : VF} {p p' pos pos' : Pos} (hx : isB2 S "sorted" x = true) (hy : isB2 S "set" y = true) (hn : noStar e = true) (he : SoundV X e f) : SoundE X (.Call (.Name x p) [.Call (.Name y p') [e] [] pos'] [] pos) (ssF f) := by
  intro β Oo H0 O σ H env st r st' Q rel h q
  unfold isB2 at hx hy
  rw [Bool.and_eq_true] at hx hy
  have ex := of_decide_eq_true hx.2
  have ey := of_decide_eq_true hy.2
  subst ex; subst ey
  obtain ⟨g1, m1, n1, d1⟩ := isBlt_ok C hx.1
  obtain ⟨g2, m2, n2, d2⟩ := isBlt_ok C hy.1
  obtain ⟨⟨d, s1⟩, e1, h⟩ := bind1 h
  dsimp only at h
  split at h
  · obtain ⟨ns, e2, h⟩ := bind1 h
    obtain ⟨c, h⟩ := ite_some h
    cases h
    have hs := noStar_ok hn [] X.env
    have inner : PE X (.Call (.Name "set" p') [e] [] pos') _ := pe_callTy (cr_setL C.calm) g2 m2 PyProof.Rows.boot_set (pa_cons (we_pe X e) pa_nil hs) n2 d2 hs rfl
    refine (pe_callB (cr_sortedSet C.calm) g1 m1 PyProof.Rows.boot_sorted (pa_cons inner pa_nil rfl) n1 d1 rfl rfl).we (he rel e1 fun v H1 sb1 bg1 tv => ?_)
    have rel1 := rel.step sb1 bg1
    obtain ⟨a, xs, rfl, _, h1, h2⟩ := tv
    rw [intsOf_ok e2] at h2
    rw [h2.ints] at h1
    refine ⟨a, ns, rfl, SqL.of h1, of_decide_eq_true c, fun p2 cc hp2 hcc => ?_⟩
    have c64 : ns.length < 64 := of_decide_eq_true c
    refine ⟨p2, _, cc, rfl, upd_same, by omega, fun ns' p3 hp hm _ hp3 => ?_⟩
    have eu : ns' = usort ns := lt_unique hp (usort_lt ns) fun z => by rw [hm z, usort_mem]; simp
    rw [eu]
    have s1 : Same H1 (upd H1 p2 (SetO X.w p2 (fun j => decide (j ∈ ns)) cc)) := same_laid hp2
    have rel2 := rel1.step (same_sb s1) (same_bag s1 bg1)
    exact q _ _ (sb1.trans ((same_sb s1).trans (SB.laid hp3))) (same_bag (same_laid hp3) (same_bag s1 bg1)) ((fresh_list hp3 rel2.dom (rel2.neB hp3) (RpAll.of_ints _)).back (sb1.trans (same_sb s1)))
  · cases h
/-! ### isinstance -/
def tyD : D → String
  | .none => "NoneType" | .bool _ => "bool" | .int _ => "int" | .str _ => "str" | .list _ => "list" | .tuple _ => "tuple" | .dict _ => "dict"
inductive Ty where
  | int | bool | str | list | tuple
def Ty.s : Ty → String
  | .int => "int" | .bool => "bool" | .str => "str" | .list => "list" | .tuple => "tuple"
def tyOf (S : Sx) : Expr → Option Ty
  | .Name x _ => if isBlt S x then if x = "int" then some .int else if x = "bool" then some .bool else if x = "str" then some .str else if x = "list" then some .list else if x = "tuple" then some .tuple else none else none
  | _ => none
def isD : D → Ty → Bool
  | .bool _, .bool => true
  | .bool _, .int => true
  | .int _, .int => true
  | .str _, .str => true
  | .list _, .list => true
  | .tuple _, .tuple => true
  | _, _ => false
theorem isD_kit (d : D) (t : Ty) : kitB (tyD d) t.s = some (isD d t) := by
  cases t <;> cases d <;> (simp only [tyD, Ty.s, isD]; decide +kernel)
theorem tyOf_ok (C : CxS F S X) {e : Expr} {t : Ty} (h : tyOf S e = some t) : PE X e (tC (.ty t.s)) ∧ noStar e = true := by
  cases e with
  | Name x pos =>
    refine ⟨?_, rfl⟩
    dsimp only [tyOf] at h
    cases hb : isBlt S x with
    | false => rw [hb] at h; cases h
    | true =>
      rw [hb] at h
      obtain ⟨g, m, n, d⟩ := isBlt_ok C hb
      simp only [if_true] at h
      split at h
      · rename_i ex; subst ex; cases h; exact pe_bltn g m PyProof.Rows.boot_int rfl n d
      split at h
      · rename_i ex; subst ex; cases h; exact pe_bltn g m PyProof.Rows.boot_bool rfl n d
      split at h
      · rename_i ex; subst ex; cases h; exact pe_bltn g m PyProof.Rows.boot_str rfl n d
      split at h
      · rename_i ex; subst ex; cases h; exact pe_bltn g m PyProof.Rows.boot_list rfl n d
      split at h
      · rename_i ex; subst ex; cases h; exact pe_bltn g m PyProof.Rows.boot_tuple rfl n d
      · cases h
  | _ => cases h
theorem tyx_of {β : Option Addr} {O : Addr → Prop} {H : Hp} {v : V} {d : D} (h : TopAt X.K β O H v d) : TyX X.K H v (.type (tyD d)) := by
  cases d with
  | list ds => obtain ⟨a, xs, rfl, _, h1, h2⟩ := h; exact .base (.lst h1)
  | dict kds => obtain ⟨a, kvs, rfl, _, h1, h2⟩ := h; exact .base (.dK h1)
  | none => cases h; exact .base .non
  | bool _ => cases h; exact .base (.bl _)
  | int _ => cases h; exact .base (.int _)
  | str _ => cases h; exact .base (.str _)
  | tuple ds =>
    obtain ⟨a, xs, rfl, h1, h2⟩ := rp_tup h
    rcases fz_tup h1 with (z | ⟨o, z⟩) | ⟨o, its, n, z, c, _⟩
    · exact .base (.tup z)
    · exact .fTuple z
    · exact .kTuple z c
def isiF (t : Ty) (f : VF) (env : Env') (st : BSt) : Option (R × BSt) := (f env st).map fun p => (.fz (.bool (isD p.1 t)), p.2)
def isInst (S : Sx) (x : Str) : Bool := isBlt S x && decide (x = "isinstance")
theorem s_isi (C : CxS F S X) {x : Str} {e c : Expr} {t : Ty} {p pos : Pos} {f : VF} (hx : isInst S x = true) (ht : tyOf S c = some t) (hn : noStar e = true) (he : SoundV X e f) : SoundE X (.Call (.Name x p) [e, c] [] pos) (isiF t f) := by
  intro β Oo H0 O σ H env st r st' Q rel h q
  obtain ⟨⟨d, s1⟩, e1, h⟩ := map1 h
  cases h
  unfold isInst at hx
  rw [Bool.and_eq_true] at hx
  have ex := of_decide_eq_true hx.2
  subst ex
  obtain ⟨g, m, n, db⟩ := isBlt_ok C hx.1
  obtain ⟨pc, nc⟩ := tyOf_ok C ht
  have hs := noStar_ok hn [c] X.env
  have hs' := noStar_ok nc [] X.env
  refine (pe_callB call_isi g m PyProof.Rows.boot_isinstance (pa_cons (we_pe X e) (pa_cons pc pa_nil hs') hs) n db hs (noStars_any (by simp [nc]))).we (he rel e1 fun v H1 sb1 bg1 tv => ?_)
  exact ⟨_, _, _, _, _, rfl, .ty _, tyx_of tv, kit_ty (isD_kit d t), q _ _ sb1 bg1 (.bl _)⟩
def isiF2 (t u : Ty) (f : VF) (env : Env') (st : BSt) : Option (R × BSt) := (f env st).map fun p => (.fz (.bool (isD p.1 t || isD p.1 u)), p.2)
theorem s_isi2 (C : CxS F S X) {x : Str} {e c c' : Expr} {t u : Ty} {k : Nat} {p p2 pos : Pos} {f : VF} (hx : isInst S x = true) (ht : tyOf S c = some t) (ht' : tyOf S c' = some u) (hn : noStar e = true) (he : SoundV X e f) :
    SoundE X (.Call (.Name x p) [e, .Tuple [c, c'] k p2] [] pos) (isiF2 t u f) := by
  intro β Oo H0 O σ H env st r st' Q rel h q
  obtain ⟨⟨d, s1⟩, e1, h⟩ := map1 h
  cases h
  unfold isInst at hx
  rw [Bool.and_eq_true] at hx
  have ex := of_decide_eq_true hx.2
  subst ex
  obtain ⟨g, m, n, db⟩ := isBlt_ok C hx.1
  obtain ⟨pc, nc⟩ := tyOf_ok C ht
  obtain ⟨pc', nc'⟩ := tyOf_ok C ht'
  have hs := noStar_ok hn [.Tuple [c, c'] k p2] X.env
  have ha : PA X [c, c'] _ := pa_cons pc (pa_cons pc' pa_nil (noStar_ok nc' [] X.env)) (noStar_ok nc [c'] X.env)
  refine (pe_callB call_isiT g m PyProof.Rows.boot_isinstance (pa_cons (we_pe X e) (pa_cons (pe_tup ha) pa_nil rfl) hs) n db hs rfl).we (he rel e1 fun v H1 sb1 bg1 tv => ?_)
  refine ⟨by show 2 ≤ sizeLine; decide, fun tp htp => ?_⟩
  refine ⟨_, tp, _, _, _, isD d t || isD d u, rfl, upd_same, .cons (.ty _) (.cons (.ty _) .nil), tyx_of (tv.mono (same_fz (same_laid htp)) (SB.laid htp)), ?_, ?_⟩
  · refine kitAny_cons (kit_ty (isD_kit d t)) (fun hf => kitAny_cons (kit_ty (isD_kit d u)) (fun hf' => ?_) (fun hf' => by rw [hf']; simp)) (fun hf => by rw [hf]; rfl)
    rw [hf, hf']; exact kitAny_nil
  · exact q _ _ (sb1.trans (SB.laid htp)) (same_bag (same_laid htp) bg1) (.bl _)
/-! ### x.upper() -/
def noCall0 : Expr → Bool
  | .Call .. => false
  | _ => true
theorem noCall0_ok {o : Expr} (h : noCall0 o = true) (a : Str) (env : Env) (w : Sem Value) : attributeBase o a env w = w := by
  cases o <;> first | rfl | cases h
def upF (f : VF) (env : Env') (st : BSt) : Option (R × BSt) := (f env st).bind fun p => match p.1 with
  | .str x => if decide (x.length ≤ 5592405) then some (.fz (.str (Txt.upper x)), p.2) else none
  | _ => none
theorem s_up {o : Expr} {f : VF} {apos pos : Pos} (hc : noCall0 o = true) (hl : (apos.endLine == pos.line) = true) (ho : SoundV X o f) : SoundE X (.Call (.Attribute o "upper" apos) [] [] pos) (upF f) := by
  intro β Oo H0 O σ H env st r st' Q rel h q
  obtain ⟨⟨d, s1⟩, e1, h⟩ := bind1 h
  simp only at h
  split at h
  · obtain ⟨c, h⟩ := ite_some h
    cases h
    refine (pe_upper (we_pe X o) (noCall0_ok hc _ _ _) hl).we (ho rel e1 fun v H1 sb1 bg1 tv => ?_)
    cases tv
    exact ⟨⟨_, rfl⟩, _, rfl, rfl, of_decide_eq_true c, q _ _ sb1 bg1 (.str _)⟩
  · cases h
end
end Iv

set_option maxHeartbeats 4000000
namespace Iv
open PySem PySem.Spec PyProof.Rows L2
/-! ### what is walked -/
def Wi (X : Cx) (tg e : Expr) : TI := fun σ H R => ∀ pins s, Inv X pins σ H s → wpAny (model X.prog X.w) X.A (eval e X.env) (fun v s1 => wpAny (model X.prog X.w) X.A (pyIter v) (PIE X pins σ tg R) X.xe s1) X.xe s
theorem wi_pi (X : Cx) (tg e : Expr) : PI X tg e (Wi X tg e) := ⟨fun pins s _ _ _ I h => h pins s I⟩
theorem _root_.L2.PI.wi {X : Cx} {tg e : Expr} {t : TI} {σ : L2.St} {H : Hp} {R : It → Hp → Prop} (h : PI X tg e t) (q : t σ H R) : Wi X tg e σ H R := fun pins s I => h.run pins s σ H R I q
structure ItOk (K : PySem.W.Frag) (J : It) (Fr : Hp → Prop) (ds : List D) : Prop where
  mono : ∀ {h h' : Hp}, Same h h' → Fr h → Fr h'
  goes : ∀ {O : Addr → Prop} {H : Hp} {i : Nat}, i < ds.length → Fr (Fz O H) → J.go i H
  stops : ∀ {O : Addr → Prop} {H : Hp}, Fr (Fz O H) → J.stop ds.length H
  yld : ∀ {O : Addr → Prop} {H H' : Hp} {i : Nat} {x : V}, i < ds.length → (∀ a, O a → H a ≠ none) → Fr (Fz O H) → J.yld i H x H' → Same H H' ∧ ∃ d, ds[i]? = some d ∧ Rp K (Fz O H') x d
abbrev IF := Env' → BSt → Option (List D × BSt)
def SoundI (X : Cx) (tg e : Expr) (f : IF) : Prop := ∀ ⦃β : Option Addr⦄ ⦃Oo : Addr → Prop⦄ ⦃H0 : Hp⦄ ⦃O : Addr → Prop⦄ ⦃σ : L2.St⦄ ⦃H : Hp⦄ ⦃env : Env'⦄ ⦃st : BSt⦄ ⦃ds : List D⦄ ⦃st' : BSt⦄ ⦃R : It → Hp → Prop⦄,
  Rel X.K β Oo H0 O σ H env st → f env st = some (ds, st') → (∀ J Fr H', SB β H H' → BagAt β H' st' → ItOk X.K J Fr ds → Fr (Fz O H') → R J H') → Wi X tg e σ H R
section
variable {F : FT} {S : Sx} {X : Cx}
theorem rpall_get {K : PySem.W.Frag} {h : Hp} {xs : List V} {ds : List D} (a : RpAll K h xs ds) {i : Nat} {x : V} (e : xs[i]? = some x) : ∃ d, ds[i]? = some d ∧ Rp K h x d := by
  have hi : i < ds.length := by rw [← a.length]; exact (List.getElem?_eq_some_iff.mp e).1
  obtain ⟨v, h1, h2⟩ := a.get (List.getElem?_eq_getElem hi)
  rw [e] at h1; cases h1
  exact ⟨_, List.getElem?_eq_getElem hi, h2⟩
theorem it_list {K : PySem.W.Frag} {a : Addr} {xs : List V} {ds : List D} : ItOk K (Itl K a) (fun h => h a = some (.lst xs) ∧ RpAll K h xs ds) ds where
  mono := fun e z => ⟨e _ _ z.1, z.2.mono e⟩
  goes := fun {O H i} hi z => walk_list.goes i H (by rw [z.2.length]; exact hi) (SqL.of (fz_some z.1).2)
  stops := fun {O H} z => by rw [← z.2.length]; exact walk_list.stops H (SqL.of (fz_some z.1).2)
  yld := fun {O H H' i x} hi _ z y => by
    obtain ⟨rfl, e⟩ := walk_list.yields i H x H' (by rw [z.2.length]; exact hi) (SqL.of (fz_some z.1).2) y
    exact ⟨Same.refl _, rpall_get z.2 e⟩
theorem it_tup {K : PySem.W.Frag} {a : Addr} {xs : List V} {ds : List D} : ItOk K (Itt K a) (fun h => SqT K h a xs ∧ RpAll K h xs ds) ds where
  mono := fun e z => ⟨sameT e z.1, z.2.mono e⟩
  goes := fun {O H i} hi z => walk_tup.goes i H (by rw [z.2.length]; exact hi) (sameT fz_same z.1)
  stops := fun {O H} z => by rw [← z.2.length]; exact walk_tup.stops H (sameT fz_same z.1)
  yld := fun {O H H' i x} hi _ z y => by
    obtain ⟨rfl, e⟩ := walk_tup.yields i H x H' (by rw [z.2.length]; exact hi) (sameT fz_same z.1) y
    exact ⟨Same.refl _, rpall_get z.2 e⟩
def signsD (z : Str) : List D := z.cps.toList.map fun c => .str ⟨#[c]⟩
theorem it_str {K : PySem.W.Frag} {z : Str} : ItOk K (Its z) (fun _ => True) (signsD z) where
  mono := fun _ z => z
  goes := fun {O H i} hi _ => walk_str.goes i H (by simpa [signsD] using hi) True.intro
  stops := fun {O H} _ => by have := (walk_str (z := z)).stops H True.intro; simpa [signsD] using this
  yld := fun {O H H' i x} hi _ _ y => by
    obtain ⟨rfl, c, e, rfl⟩ := walk_str.yields i H x H' (by simpa [signsD] using hi) True.intro y
    exact ⟨Same.refl _, _, by unfold signsD; rw [List.getElem?_map, Array.getElem?_toList, e]; rfl, .str _⟩
def rangeD (n : Nat) : List D := (List.range n).map fun i => .int (i : Nat)
theorem it_range {K : PySem.W.Frag} {n : Nat} : ItOk K (Itr 0 n) (fun _ => True) (rangeD n) where
  mono := fun _ z => z
  goes := fun {O H i} hi _ => walk_range.goes i H (by simpa [rangeD] using hi) True.intro
  stops := fun {O H} _ => by have := (walk_range (lo := 0) (n := n)).stops H True.intro; simpa [rangeD] using this
  yld := fun {O H H' i x} hi _ _ y => by
    have hi' : i < n := by simpa [rangeD] using hi
    obtain ⟨rfl, rfl⟩ := walk_range.yields i H x H' hi' True.intro y
    exact ⟨Same.refl _, .int (i : Nat), by unfold rangeD; rw [List.getElem?_map, List.getElem?_range hi']; rfl, by show Rp K (Fz O H') (.int (0 + (i : Int))) _; rw [Int.zero_add]; exact .int _⟩
theorem ypair {K : PySem.W.Frag} {O : Addr → Prop} {H H' : Hp} {v : V} {d e : D} {T : Addr} {x y : V} (hO : ∀ a, O a → H a ≠ none) (hT : H T = none) (hv : v = .ref T) (h' : H' = upd H T (.tup [x, y])) (hx : Rp K (Fz O H) x d) (hy : Rp K (Fz O H) y e) :
    Same H H' ∧ Rp K (Fz O H') v (.tuple [d, e]) := by
  subst hv h'
  refine ⟨same_laid hT, .tup (SqT.of (by rw [fz_out (fun z => hO T z hT), upd_same])) ?_⟩
  have m : Same (Fz O H) (Fz O (upd H T (.tup [x, y]))) := same_fz (same_laid hT)
  exact .cons (hx.mono m) (.cons (hy.mono m) .nil)
def zipD (as bs : List D) : List D := (as.zip bs).map fun p => .tuple [p.1, p.2]
theorem it_zip {K : PySem.W.Frag} {a b : Addr} {xs ys : List V} {ds es : List D} : ItOk K (Itz K a b) (fun h => (h a = some (.lst xs) ∧ RpAll K h xs ds) ∧ (h b = some (.lst ys) ∧ RpAll K h ys es)) (zipD ds es) where
  mono := fun e z => ⟨⟨e _ _ z.1.1, z.1.2.mono e⟩, ⟨e _ _ z.2.1, z.2.2.mono e⟩⟩
  goes := fun {O H i} hi z => (walk_zip (xs := xs) (ys := ys) rfl).goes i H (by rw [z.1.2.length, z.2.2.length]; simpa [zipD] using hi) ⟨SqL.of (fz_some z.1.1).2, SqL.of (fz_some z.2.1).2⟩
  stops := fun {O H} z => by
    have := (walk_zip (K := K) (a := a) (b := b) (xs := xs) (ys := ys) rfl).stops H ⟨SqL.of (fz_some z.1.1).2, SqL.of (fz_some z.2.1).2⟩
    rw [z.1.2.length, z.2.2.length] at this
    simpa [zipD] using this
  yld := fun {O H H' i v} hi hO z y => by
    obtain ⟨T, x, y', h1, h2, h3, h4, h5⟩ := (walk_zip (K := K) (a := a) (b := b) (xs := xs) (ys := ys) rfl).yields i H v H' (by rw [z.1.2.length, z.2.2.length]; simpa [zipD] using hi) ⟨SqL.of (fz_some z.1.1).2, SqL.of (fz_some z.2.1).2⟩ y
    obtain ⟨d, e1, r1⟩ := rpall_get z.1.2 h4
    obtain ⟨e, e2, r2⟩ := rpall_get z.2.2 h5
    obtain ⟨s, r⟩ := ypair hO h2 h1 h3 r1 r2
    refine ⟨s, _, ?_, r⟩
    unfold zipD
    rw [List.getElem?_map, (List.getElem?_zip_eq_some (z := (d, e))).mpr ⟨e1, e2⟩]; rfl
def enumD : Nat → List D → List D
  | _, [] => []
  | n, d :: ds => .tuple [.int (n : Nat), d] :: enumD (n + 1) ds
theorem enumD_len : ∀ (n : Nat) (ds : List D), (enumD n ds).length = ds.length
  | _, [] => rfl
  | n, _ :: ds => by simp [enumD, enumD_len (n + 1) ds]
theorem enumD_get : ∀ (ds : List D) (n i : Nat) {d : D}, ds[i]? = some d → (enumD n ds)[i]? = some (.tuple [.int ((n + i : Nat) : Int), d])
  | d :: ds, n, 0, _, h => by simp at h; subst h; rfl
  | _ :: ds, n, i + 1, _, h => by
    have := enumD_get ds (n + 1) i (by simpa using h)
    simp only [enumD, List.getElem?_cons_succ]
    rw [this, show n + 1 + i = n + (i + 1) by omega]
theorem it_enum {K : PySem.W.Frag} {a : Addr} {xs : List V} {ds : List D} : ItOk K (Ite K a) (fun h => h a = some (.lst xs) ∧ RpAll K h xs ds) (enumD 0 ds) where
  mono := fun e z => ⟨e _ _ z.1, z.2.mono e⟩
  goes := fun {O H i} hi z => walk_enum.goes i H (by rw [z.2.length]; simpa [enumD_len] using hi) (SqL.of (fz_some z.1).2)
  stops := fun {O H} z => by rw [enumD_len, ← z.2.length]; exact walk_enum.stops H (SqL.of (fz_some z.1).2)
  yld := fun {O H H' i v} hi hO z y => by
    obtain ⟨T, x, y', h1, h2, h3, h4, h5⟩ := walk_enum.yields i H v H' (by rw [z.2.length]; simpa [enumD_len] using hi) (SqL.of (fz_some z.1).2) y
    have h4 := Option.some.inj h4
    subst h4
    obtain ⟨e, e2, r2⟩ := rpall_get z.2 h5
    obtain ⟨s, r⟩ := ypair hO h2 h1 h3 (.int _) r2
    exact ⟨s, _, by rw [enumD_get ds 0 i e2, Nat.zero_add], r⟩
theorem it_enumT {K : PySem.W.Frag} {a : Addr} {xs : List V} {ds : List D} : ItOk K (IteT K a) (fun h => SqT K h a xs ∧ RpAll K h xs ds) (enumD 0 ds) where
  mono := fun e z => ⟨sameT e z.1, z.2.mono e⟩
  goes := fun {O H i} hi z => by
    have hl : i < xs.length := by rw [z.2.length]; simpa [enumD_len] using hi
    exact ⟨xs, xs[i], sameT fz_same z.1, List.getElem?_eq_getElem hl⟩
  stops := fun {O H} z => ⟨xs, sameT fz_same z.1, by rw [enumD_len, z.2.length]⟩
  yld := fun {O H H' i v} hi hO z y => by
    obtain ⟨T, x, h1, h2, h3, h4⟩ := y
    obtain ⟨e, e2, r2⟩ := rpall_get z.2 (h4 xs (sameT fz_same z.1))
    obtain ⟨s, r⟩ := ypair hO h2 h1 h3 (.int _) r2
    exact ⟨s, _, by rw [enumD_get ds 0 i e2, Nat.zero_add], r⟩
def itemsD : D → Option (List D)
  | .list ds => some ds
  | .tuple ds => some ds
  | .str z => some (signsD z)
  | _ => none
def plainF (f : EF) (env : Env') (st : BSt) : Option (List D × BSt) := (f env st).bind fun p => p.1.d?.bind fun d => (itemsD d).map fun ds => (ds, p.2)
theorem s_iter {tg e : Expr} {f : EF} (he : SoundE X e f) : SoundI X tg e (plainF f) := by
  intro β Oo H0 O σ H env st ds st' R rel h q
  obtain ⟨⟨r, s1⟩, e1, h⟩ := bind1 h
  obtain ⟨d, e2, h⟩ := bind1 h
  obtain ⟨ds', e3, h⟩ := map1 h
  cases h
  unfold itemsD at e3
  split at e3
  · cases e3
    refine (pi_list (we_pe X e)).wi (he rel e1 fun v H1 sb1 bg1 rv => ?_)
    have rp := rv.rp rel e2
    cases rp with
    | lst h1 h2 => exact ⟨_, rfl, ⟨_, SqL.of (fz_some h1).2⟩, q _ _ _ sb1 bg1 it_list ⟨h1, h2⟩⟩
  · cases e3
    refine (pi_tup (we_pe X e)).wi (he rel e1 fun v H1 sb1 bg1 rv => ?_)
    have rp := rv.rp rel e2
    cases rp with
    | tup h1 h2 => exact ⟨_, rfl, ⟨_, sameT fz_same h1⟩, q _ _ _ sb1 bg1 it_tup ⟨h1, h2⟩⟩
  · cases e3
    refine (pi_str (we_pe X e)).wi (he rel e1 fun v H1 sb1 bg1 rv => ?_)
    have rp := rv.rp rel e2
    cases rp with
    | str z => exact ⟨_, rfl, q _ _ _ sb1 bg1 it_str True.intro⟩
  · cases e3
def rangeF (f : VF) (env : Env') (st : BSt) : Option (List D × BSt) := (f env st).bind fun p => match p.1 with
  | .int n => if decide (-(2 ^ 62) ≤ n) && decide (n < 2 ^ 62) then some (rangeD n.toNat, p.2) else none
  | _ => none
def isB (S : Sx) (n x : Str) : Bool := isBlt S x && decide (x = n)
theorem isB_ok (C : CxS F S X) {n x : Str} (h : isB S n x = true) : x = n ∧ Gl X n ∧ X.mg n = none := by
  unfold isB at h
  rw [Bool.and_eq_true] at h
  have e := of_decide_eq_true h.2
  subst e
  have g := isBlt_ok C h.1
  exact ⟨rfl, g.1, g.2.1⟩
theorem s_range (C : CxS F S X) {tg e : Expr} {x : Str} {f : VF} {p pos : Pos} (hx : isB S "range" x = true) (hn : noStar e = true) (he : SoundV X e f) : SoundI X tg (.Call (.Name x p) [e] [] pos) (rangeF f) := by
  intro β Oo H0 O σ H env st ds st' R rel h q
  obtain ⟨rfl, g, m⟩ := isB_ok C hx
  obtain ⟨⟨d, s1⟩, e1, h⟩ := bind1 h
  dsimp only at h
  split at h
  · obtain ⟨c, h⟩ := ite_some h
    cases h
    rw [Bool.and_eq_true] at c
    refine (pi_range1 g m (pa_cons (we_pe X e) pa_nil (noStar_ok hn [] X.env)) (noStar_ok hn [] X.env)).wi (he rel e1 fun v H1 sb1 bg1 tv => ?_)
    cases tv
    exact ⟨_, rfl, of_decide_eq_true c.1, of_decide_eq_true c.2, q _ _ _ sb1 bg1 it_range True.intro⟩
  · cases h
def zipF (f g : EF) (env : Env') (st : BSt) : Option (List D × BSt) := (f env st).bind fun p => (g env p.2).bind fun q => match p.1.d?, q.1.d? with
  | some (.list as), some (.list bs) => some (zipD as bs, q.2)
  | _, _ => none
theorem s_zip (C : CxS F S X) {es : List Expr} {k : Nat} {tp : Pos} {a b : Expr} {x : Str} {f g : EF} {p pos : Pos} (hx : isB S "zip" x = true) (hn : noStar a = true) (hn' : noStar b = true) (ha : SoundE X a f) (hb : SoundE X b g) :
    SoundI X (.Tuple es k tp) (.Call (.Name x p) [a, b] [] pos) (zipF f g) := by
  intro β Oo H0 O σ H env st ds st' R rel h q
  obtain ⟨rfl, gg, m⟩ := isB_ok C hx
  obtain ⟨⟨d, s1⟩, e1, h⟩ := bind1 h
  obtain ⟨⟨e, s2⟩, e2, h⟩ := bind1 h
  dsimp only at h
  split at h
  · rename_i as bs e3 e4
    cases h
    refine (pi_zip gg m (pa_cons (we_pe X a) (pa_cons (we_pe X b) pa_nil (noStar_ok hn' [] X.env)) (noStar_ok hn [b] X.env)) (noStar_ok hn [b] X.env) (noStars_any (by simp [hn']))).wi (ha rel e1 fun v H1 sb1 bg1 rv => ?_)
    have rel1 := rel.step sb1 bg1
    refine hb rel1 e2 fun u H2 sb2 bg2 ru => ?_
    have r1 := (rv.rp rel e3).mono (rel1.fzm sb2)
    have r2 := ru.rp rel1 e4
    cases r1 with
    | lst h1 h2 =>
      cases r2 with
      | lst h3 h4 => exact ⟨_, _, _, _, rfl, SqL.of (fz_some h1).2, SqL.of (fz_some h3).2, q _ _ _ (sb1.trans sb2) bg2 it_zip ⟨⟨h1, h2⟩, ⟨h3, h4⟩⟩⟩
  · cases h
def enumF (f : EF) (env : Env') (st : BSt) : Option (List D × BSt) := (f env st).bind fun p => match p.1.d? with
  | some (.list as) => some (enumD 0 as, p.2)
  | some (.tuple as) => some (enumD 0 as, p.2)
  | _ => none
theorem s_enum (C : CxS F S X) {es : List Expr} {k : Nat} {tp : Pos} {a : Expr} {x : Str} {f : EF} {p pos : Pos} (hx : isB S "enumerate" x = true) (hn : noStar a = true) (ha : SoundE X a f) :
    SoundI X (.Tuple es k tp) (.Call (.Name x p) [a] [] pos) (enumF f) := by
  intro β Oo H0 O σ H env st ds st' R rel h q
  obtain ⟨rfl, gg, m⟩ := isB_ok C hx
  obtain ⟨⟨d, s1⟩, e1, h⟩ := bind1 h
  dsimp only at h
  split at h
  · rename_i as e3
    cases h
    refine (pi_enum gg m (pa_cons (we_pe X a) pa_nil (noStar_ok hn [] X.env)) (noStar_ok hn [] X.env)).wi (ha rel e1 fun v H1 sb1 bg1 rv => ?_)
    have r1 := rv.rp rel e3
    cases r1 with
    | lst h1 h2 => exact ⟨_, _, rfl, SqL.of (fz_some h1).2, q _ _ _ sb1 bg1 it_enum ⟨h1, h2⟩⟩
  · rename_i as e3
    cases h
    refine (pi_enumT gg m (pa_cons (we_pe X a) pa_nil (noStar_ok hn [] X.env)) (noStar_ok hn [] X.env)).wi (ha rel e1 fun v H1 sb1 bg1 rv => ?_)
    have r1 := rv.rp rel e3
    cases r1 with
    | tup h1 h2 => exact ⟨_, _, rfl, sameT fz_same h1, q _ _ _ sb1 bg1 it_enumT ⟨h1, h2⟩⟩
  · cases h
end
end Iv

set_option maxHeartbeats 4000000
namespace Iv
open PySem PySem.Spec PyProof.Rows L2
/-! ### slots stored -/
section
variable {K : PySem.W.Frag} {β : Option Addr} {Oo O : Addr → Prop} {H0 H H' : Hp} {σ : L2.St} {env : Env'} {st st' : BSt}
theorem get_set {α : Type} {l : List α} {i j : Nat} {a b : α} (h : (l.set i a)[j]? = some b) : (j = i ∧ i < l.length ∧ b = a) ∨ (j ≠ i ∧ l[j]? = some b) := by
  by_cases e : i = j
  · subst e
    by_cases hl : i < l.length
    · rw [List.getElem?_set_self hl] at h; cases h; exact .inl ⟨rfl, hl, rfl⟩
    · rw [List.getElem?_eq_none (by simpa using hl)] at h; cases h
  · rw [List.getElem?_set_ne e] at h; exact .inr ⟨fun z => e z.symm, h⟩
theorem set_ne {α : Type} {l : List α} {i j : Nat} {a : α} (h : j ≠ i) : (l.set i a)[j]? = l[j]? := List.getElem?_set_ne (fun z => h z.symm)
/-- what is not owned is stored -/
theorem Rel.put (r : Rel K β Oo H0 O σ H env st) {v : V} {x : R} (i : Nat) (h : SlAt K β O H v x) (hx : ∀ d, x ≠ .ow d) : Rel K β Oo H0 O (σ.set i (some v)) H (env.set i (some x)) st where
  sl := fun j y e => by
    rcases get_set e with ⟨rfl, hl, e⟩ | ⟨hj, e⟩
    · cases e; exact ⟨v, List.getElem?_set_self (by rw [← r.len]; exact hl), h⟩
    · rw [set_ne hj]; exact r.sl j y e
  ne := fun j k d e a hjk h1 h2 h3 => by
    rcases get_set h1 with ⟨rfl, _, z⟩ | ⟨hj, h1⟩
    · cases z; exact absurd rfl (hx d)
    rcases get_set h2 with ⟨rfl, _, z⟩ | ⟨hk, h2⟩
    · cases z; exact absurd rfl (hx e)
    rw [set_ne hj] at h3
    rw [set_ne hk]
    exact r.ne j k d e a hjk h1 h2 h3
  fr := fun j d a h1 h2 => by
    rcases get_set h1 with ⟨rfl, _, z⟩ | ⟨hj, h1⟩
    · cases z; exact absurd rfl (hx d)
    rw [set_ne hj] at h2
    exact r.fr j d a h1 h2
  len := by rw [List.length_set, List.length_set]; exact r.len
  sub := r.sub
  dom := r.dom
  dom0 := r.dom0
  sb := r.sb
  bag := r.bag
  bO := r.bO
/-- a fresh thing is stored: from then on it is owned -/
theorem Rel.putOw (r : Rel K β Oo H0 O σ H env st) {p : Addr} {d : D} (i : Nat) (sb : SB β H H') (bg : BagAt β H' st') (hp : H p = none) (hn : β ≠ some p) (ho : OwAt K (orO O p) H' p d) :
    Rel K β Oo H0 (orO O p) (σ.set i (some (.ref p))) H' (env.set i (some (.ow d))) st' := by
  have nO : ¬ O p := r.notO hp
  have p0 : H0 p = none := by
    cases e : H0 p with
    | none => rfl
    | some o => rw [r.sb p o hn e] at hp; cases hp
  have hp' : H' p ≠ none := by
    cases d with
    | list ds => obtain ⟨xs, h, _⟩ := ho; rw [h]; simp
    | dict ds => obtain ⟨xs, h, _⟩ := ho; rw [h]; simp
    | none => exact ho.elim
    | bool _ => exact ho.elim
    | int _ => exact ho.elim
    | str _ => exact ho.elim
    | tuple _ => exact ho.elim
  have fm : Same (Fz O H) (Fz (orO O p) H') := fun a o e => by
    obtain ⟨n, e⟩ := fz_some e
    have ap : a ≠ p := ne_of_none e hp
    rw [fz_out (fun z => z.elim n ap)]
    exact sb a o (fun z => n (r.bO' a z)) e
  exact {
    sl := fun j y e => by
      rcases get_set e with ⟨rfl, hl, e⟩ | ⟨hj, e⟩
      · cases e; exact ⟨_, List.getElem?_set_self (by rw [← r.len]; exact hl), p, rfl, .inr rfl, hn, ho⟩
      · rw [set_ne hj]
        obtain ⟨v, h1, h2⟩ := r.sl j y e
        exact ⟨v, h1, h2.mono fm sb fun a d _ _ z => .inl z⟩
    ne := fun j k d e a hjk h1 h2 h3 => by
      have old : ∀ (m : Nat) d', env[m]? = some (some (.ow d')) → σ[m]? ≠ some (some (.ref p)) := fun m d' q z => by
        obtain ⟨v, h4, b, rfl, h5, _⟩ := r.sl m _ q
        rw [h4] at z; cases z; exact nO h5
      rcases get_set h1 with ⟨ej, hl, z⟩ | ⟨hj, g1⟩
      · rcases get_set h2 with ⟨ek, _, z2⟩ | ⟨hk, g2⟩
        · exact absurd (ej.trans ek.symm) hjk
        · rw [set_ne hk]
          rw [ej, List.getElem?_set_self (by rw [← r.len]; exact hl)] at h3
          cases h3
          exact old k e g2
      · rw [set_ne hj] at h3
        rcases get_set h2 with ⟨ek, hl, z2⟩ | ⟨hk, g2⟩
        · rw [ek, List.getElem?_set_self (by rw [← r.len]; exact hl)]
          intro z
          cases z
          exact old j d g1 h3
        · rw [set_ne hk]
          exact r.ne j k d e a hjk g1 g2 h3
    fr := fun j d' a h1 h2 => by
      rcases get_set h1 with ⟨rfl, hl, z⟩ | ⟨hj, h1⟩
      · rw [List.getElem?_set_self (by rw [← r.len]; exact hl)] at h2
        cases h2; exact p0
      · rw [set_ne hj] at h2
        exact r.fr j d' a h1 h2
    len := by rw [List.length_set, List.length_set]; exact r.len
    sub := fun a ha => .inl (r.sub a ha)
    dom := fun a ha => by
      rcases ha with ha | rfl
      · exact (r.step sb bg).dom a ha
      · exact hp'
    dom0 := r.dom0
    sb := r.sb.trans sb
    bag := bg
    bO := r.bO }
theorem Rel.putOw_same (r : Rel K β Oo H0 O σ H env st) {p : Addr} (sb : SB β H H') (hp : H p = none) : Same (Fz O H) (Fz (orO O p) H') := fun a o e => by
  obtain ⟨n, e⟩ := fz_some e
  have ap : a ≠ p := ne_of_none e hp
  rw [fz_out (fun z => z.elim n ap)]
  exact sb a o (fun z => n (r.bO' a z)) e
/-- slots forgotten -/
def wipeE (env : Env') : List Nat → Env'
  | [] => env
  | v :: vs => (wipeE env vs).set v none
theorem wipeE_some {env : Env'} {i : Nat} {x : R} : ∀ {vs : List Nat}, (wipeE env vs)[i]? = some (some x) → env[i]? = some (some x) ∧ i ∉ vs
  | [], h => ⟨h, by simp⟩
  | v :: vs, h => by
    unfold wipeE at h
    rcases get_set h with ⟨_, _, z⟩ | ⟨hj, h⟩
    · cases z
    · obtain ⟨h1, h2⟩ := wipeE_some h
      exact ⟨h1, by simp only [List.mem_cons, not_or]; exact ⟨hj, h2⟩⟩
theorem wipeE_len (env : Env') : ∀ vs, (wipeE env vs).length = env.length
  | [] => rfl
  | v :: vs => by unfold wipeE; rw [List.length_set, wipeE_len env vs]
theorem wipe_get {σ : L2.St} {j : Nat} : ∀ {vs : List Nat}, j ∉ vs → (wipe σ vs)[j]? = σ[j]?
  | [], _ => rfl
  | v :: vs, h => by
    simp only [List.mem_cons, not_or] at h
    unfold wipe
    rw [set_ne h.1]
    exact wipe_get h.2
theorem wipe_in {σ : L2.St} {j : Nat} : ∀ {vs : List Nat}, j ∈ vs → j < σ.length → (wipe σ vs)[j]? = some none
  | v :: vs, h, hl => by
    unfold wipe
    by_cases e : j = v
    · subst e; exact List.getElem?_set_self (by rw [wipe_length]; exact hl)
    · rw [set_ne e]
      exact wipe_in ((List.mem_cons.mp h).resolve_left e) hl
theorem wipe_eq {σ σ' : L2.St} {vs : List Nat} (hl : σ'.length = σ.length) (h : ∀ j, j ∉ vs → σ'[j]? = σ[j]?) : wipe σ' vs = wipe σ vs := by
  apply List.ext_getElem?
  intro j
  by_cases e : j ∈ vs
  · by_cases q : j < σ.length
    · rw [wipe_in e q, wipe_in e (by rw [hl]; exact q)]
    · rw [List.getElem?_eq_none (by rw [wipe_length, hl]; omega), List.getElem?_eq_none (by rw [wipe_length]; omega)]
  · rw [wipe_get e, wipe_get e]; exact h j e
theorem Rel.wipe (r : Rel K β Oo H0 O σ H env st) (vs : List Nat) : Rel K β Oo H0 O (L2.wipe σ vs) H (wipeE env vs) st where
  sl := fun i x e => by
    obtain ⟨h1, h2⟩ := wipeE_some e
    obtain ⟨v, h3, h4⟩ := r.sl i x h1
    exact ⟨v, by rw [wipe_get h2]; exact h3, h4⟩
  ne := fun i j d e a hij h1 h2 h3 => by
    obtain ⟨h1, n1⟩ := wipeE_some h1
    obtain ⟨h2, n2⟩ := wipeE_some h2
    rw [wipe_get n1] at h3
    rw [wipe_get n2]
    exact r.ne i j d e a hij h1 h2 h3
  fr := fun i d a h1 h2 => by
    obtain ⟨h1, n1⟩ := wipeE_some h1
    rw [wipe_get n1] at h2
    exact r.fr i d a h1 h2
  len := by rw [wipeE_len, wipe_length]; exact r.len
  sub := r.sub
  dom := r.dom
  dom0 := r.dom0
  sb := r.sb
  bag := r.bag
  bO := r.bO
end
/-! ### targets -/
def Wg (X : Cx) (tg : Expr) : TG := fun v σ H Q => ∀ pins s u, Inv X pins σ H s → RelV v u → wpAny (model X.prog X.w) X.A (assign tg X.env u) (fun _ s' => ∃ σ' H', Inv X pins σ' H' s' ∧ Q σ' H') X.xe s
theorem wg_pg (X : Cx) (tg : Expr) : PG X tg (Wg X tg) := ⟨fun pins s _ _ _ u _ I r h => h pins s u I r⟩
theorem _root_.L2.PG.wg {X : Cx} {tg : Expr} {t : TG} {v : V} {σ : L2.St} {H : Hp} {Q : L2.St → Hp → Prop} (h : PG X tg t) (q : t v σ H Q) : Wg X tg v σ H Q := fun pins s u I r => h.run pins s σ H v u Q I r q
def tgtSlot (S : Sx) (x : Str) : Option Nat := if locK (S.sc.names.lookup x) && (!S.blk || decide (S.sc.names.lookup x = some .local)) then ixOf S.N x else none
abbrev GF := D → Env' → Option Env'
def SoundG (X : Cx) (tg : Expr) (sl : List Nat) (g : GF) : Prop := ∀ ⦃β : Option Addr⦄ ⦃Oo : Addr → Prop⦄ ⦃H0 : Hp⦄ ⦃O : Addr → Prop⦄ ⦃σ : L2.St⦄ ⦃H : Hp⦄ ⦃env env' : Env'⦄ ⦃st : BSt⦄ ⦃v : V⦄ ⦃d : D⦄ ⦃Q : L2.St → Hp → Prop⦄,
  Rel X.K β Oo H0 O σ H env st → Rp X.K (Fz O H) v d → g d env = some env' → (∀ σ', Rel X.K β Oo H0 O σ' H env' st → σ'.length = σ.length → (∀ j, j ∉ sl → σ'[j]? = σ[j]?) → Q σ' H) → Wg X tg v σ H Q
section
variable {F : FT} {S : Sx} {X : Cx}
theorem locK_ok {o : Option NameKind} (h : locK o = true) : o = some .local ∨ o = some .cell := by
  unfold locK at h
  split at h <;> simp_all
theorem tgtSlot_ok (C : CxS F S X) {x : Str} {i : Nat} (h : tgtSlot S x = some i) : X.N.Nodup ∧ X.N[i]? = some x ∧ L2.Loc X.env.scope x ∧ (X.fn x = true ∨ X.env.scope.names.lookup x = some .local) := by
  obtain ⟨c, h⟩ : _ ∧ ixOf S.N x = some i := by
    unfold tgtSlot at h
    cases c : locK (S.sc.names.lookup x) && (!S.blk || decide (S.sc.names.lookup x = some .local)) with
    | false => rw [c] at h; cases h
    | true => rw [c] at h; exact ⟨c, h⟩
  rw [Bool.and_eq_true] at c
  refine ⟨by rw [C.N]; exact C.nd, by rw [C.N]; exact ixOf_ok h, by unfold L2.Loc; rw [C.sc]; exact locK_ok c.1, ?_⟩
  cases hb : S.blk with
  | false => exact .inl (C.fn hb x)
  | true => rw [hb] at c; right; rw [C.sc]; simpa using c.2
def setF (i : Nat) : GF := fun d env => some (env.set i (some (.fz d)))
theorem g_name (C : CxS F S X) {x : Str} {i : Nat} {pos : Pos} (h : tgtSlot S x = some i) : SoundG X (.Name x pos) [i] (setF i) := by
  intro β Oo H0 O σ H env env' st v d Q rel rv hg q
  cases hg
  obtain ⟨h1, h2, h3, h4⟩ := tgtSlot_ok C h
  refine (pg_name h1 h2 h3 h4).wg (q _ (rel.put i (x := .fz d) rv (fun _ z => by cases z)) (by simp) fun j hj => ?_)
  rw [set_ne (fun z => hj (by simp [z]))]
/-- several names -/
def slotsT (S : Sx) : List Expr → Option (List Nat)
  | [] => some []
  | .Name x _ :: es => (tgtSlot S x).bind fun i => (slotsT S es).map (i :: ·)
  | _ :: _ => none
def setAll : List Nat → List D → Env' → Option Env'
  | [], [], env => some env
  | i :: is, d :: ds, env => setAll is ds (env.set i (some (.fz d)))
  | _, _, _ => none
def Wgs (X : Cx) (ts : List Expr) : TGs := fun vs σ H Q => ∀ pins s us, Inv X pins σ H s → Vals vs us → wpAny (model X.prog X.w) X.A (assignInOrder ((assignEach ts X.env).map (·.2)) us) (fun _ s' => ∃ σ' H', Inv X pins σ' H' s' ∧ Q σ' H') X.xe s
theorem wgs_pgs (X : Cx) (ts : List Expr) : PGs X ts (Wgs X ts) := ⟨fun pins s _ _ _ us _ I r h => h pins s us I r⟩
theorem g_names (C : CxS F S X) : ∀ {es : List Expr} {is : List Nat}, slotsT S es = some is → ∀ {β : Option Addr} {Oo : Addr → Prop} {H0 : Hp} {O : Addr → Prop} {σ : L2.St} {H : Hp} {env env' : Env'} {st : BSt} {vs : List V} {ds : List D} {Q : L2.St → Hp → Prop},
    Rel X.K β Oo H0 O σ H env st → RpAll X.K (Fz O H) vs ds → setAll is ds env = some env' → (∀ σ', Rel X.K β Oo H0 O σ' H env' st → σ'.length = σ.length → (∀ j, j ∉ is → σ'[j]? = σ[j]?) → Q σ' H) → Wgs X es vs σ H Q
  | [], is, h, β, Oo, H0, O, σ, H, env, env', st, vs, ds, Q, rel, rv, hs, q => by
    cases h
    cases ds with
    | nil =>
      cases hs; cases rv
      intro pins s us I r
      exact pgs_nil.run pins s σ H [] us Q I r ⟨rfl, q σ rel rfl fun _ _ => rfl⟩
    | cons d ds => cases hs
  | .Name x pos :: es, is, h, β, Oo, H0, O, σ, H, env, env', st, vs, ds, Q, rel, rv, hs, q => by
    obtain ⟨i, e1, h⟩ := bind1 h
    obtain ⟨is', e2, rfl⟩ := map1 h
    cases rv with
    | nil => cases hs
    | @cons v vs d ds r1 r2 =>
      intro pins s us I r
      refine (pgs_cons (wg_pg X (.Name x pos)) (wgs_pgs X es) rfl).run pins s σ H (v :: vs) us Q I r ⟨v, vs, rfl, ?_⟩
      refine g_name C e1 rel r1 rfl fun σ1 rel1 hl1 hk1 => ?_
      refine g_names C e2 rel1 r2 hs fun σ2 rel2 hl2 hk2 => q σ2 rel2 (hl2.trans hl1) fun j hj => ?_
      simp only [List.mem_cons, not_or] at hj
      exact (hk2 j hj.2).trans (hk1 j (by simpa using hj.1))
  | .BoolOp .. :: _, _, h, _, _, _, _, _, _, _, _, _, _, _, _, _, _, _, _ => by cases h
  | .NamedExpr .. :: _, _, h, _, _, _, _, _, _, _, _, _, _, _, _, _, _, _, _ => by cases h
  | .BinOp .. :: _, _, h, _, _, _, _, _, _, _, _, _, _, _, _, _, _, _, _ => by cases h
  | .UnaryOp .. :: _, _, h, _, _, _, _, _, _, _, _, _, _, _, _, _, _, _, _ => by cases h
  | .Lambda .. :: _, _, h, _, _, _, _, _, _, _, _, _, _, _, _, _, _, _, _ => by cases h
  | .IfExp .. :: _, _, h, _, _, _, _, _, _, _, _, _, _, _, _, _, _, _, _ => by cases h
  | .Dict .. :: _, _, h, _, _, _, _, _, _, _, _, _, _, _, _, _, _, _, _ => by cases h
  | .Set .. :: _, _, h, _, _, _, _, _, _, _, _, _, _, _, _, _, _, _, _ => by cases h
  | .ListComp .. :: _, _, h, _, _, _, _, _, _, _, _, _, _, _, _, _, _, _, _ => by cases h
  | .SetComp .. :: _, _, h, _, _, _, _, _, _, _, _, _, _, _, _, _, _, _, _ => by cases h
  | .DictComp .. :: _, _, h, _, _, _, _, _, _, _, _, _, _, _, _, _, _, _, _ => by cases h
  | .GeneratorExp .. :: _, _, h, _, _, _, _, _, _, _, _, _, _, _, _, _, _, _, _ => by cases h
  | .Await .. :: _, _, h, _, _, _, _, _, _, _, _, _, _, _, _, _, _, _, _ => by cases h
  | .Yield .. :: _, _, h, _, _, _, _, _, _, _, _, _, _, _, _, _, _, _, _ => by cases h
  | .YieldFrom .. :: _, _, h, _, _, _, _, _, _, _, _, _, _, _, _, _, _, _, _ => by cases h
  | .Compare .. :: _, _, h, _, _, _, _, _, _, _, _, _, _, _, _, _, _, _, _ => by cases h
  | .Call .. :: _, _, h, _, _, _, _, _, _, _, _, _, _, _, _, _, _, _, _ => by cases h
  | .FormattedValue .. :: _, _, h, _, _, _, _, _, _, _, _, _, _, _, _, _, _, _, _ => by cases h
  | .JoinedStr .. :: _, _, h, _, _, _, _, _, _, _, _, _, _, _, _, _, _, _, _ => by cases h
  | .Constant .. :: _, _, h, _, _, _, _, _, _, _, _, _, _, _, _, _, _, _, _ => by cases h
  | .Attribute .. :: _, _, h, _, _, _, _, _, _, _, _, _, _, _, _, _, _, _, _ => by cases h
  | .Subscript .. :: _, _, h, _, _, _, _, _, _, _, _, _, _, _, _, _, _, _, _ => by cases h
  | .Starred .. :: _, _, h, _, _, _, _, _, _, _, _, _, _, _, _, _, _, _, _ => by cases h
  | .List .. :: _, _, h, _, _, _, _, _, _, _, _, _, _, _, _, _, _, _, _ => by cases h
  | .Tuple .. :: _, _, h, _, _, _, _, _, _, _, _, _, _, _, _, _, _, _, _ => by cases h
  | .Slice .. :: _, _, h, _, _, _, _, _, _, _, _, _, _, _, _, _, _, _, _ => by cases h
theorem names_each {env : Env} : ∀ {es : List Expr} {is : List Nat}, slotsT S es = some is → (assignEach es env).length = es.length ∧ (assignEach es env).findIdx? (·.1) = none := by
  intro es
  induction es with
  | nil => exact fun _ => ⟨rfl, rfl⟩
  | cons e es ih =>
    intro is h
    cases e with
    | Name x pos =>
      obtain ⟨i, e1, h⟩ := bind1 h
      obtain ⟨is', e2, rfl⟩ := map1 h
      obtain ⟨h1, h2⟩ := ih e2
      have e3 : assignEach (.Name x pos :: es) env = (false, assign (.Name x pos) env) :: assignEach es env := rfl
      rw [e3]
      refine ⟨by simp [h1], ?_⟩
      rw [List.findIdx?_cons]
      simp [h2]
    | _ => cases h
def unF (is : List Nat) : GF := fun d env => match d with
  | .tuple ds => setAll is ds env
  | .list ds => setAll is ds env
  | _ => none
theorem setAll_len : ∀ {is : List Nat} {ds : List D} {env env' : Env'}, setAll is ds env = some env' → ds.length = is.length
  | [], [], _, _, _ => rfl
  | _ :: is, _ :: ds, _, _, h => by simp [setAll_len (is := is) h]
  | [], _ :: _, _, _, h => by cases h
  | _ :: _, [], _, _, h => by cases h
theorem slotsT_len : ∀ {es : List Expr} {is : List Nat}, slotsT S es = some is → is.length = es.length := by
  intro es
  induction es with
  | nil => intro is h; cases h; rfl
  | cons e es ih =>
    intro is h
    cases e with
    | Name x pos =>
      obtain ⟨i, e1, h⟩ := bind1 h
      obtain ⟨is', e2, rfl⟩ := map1 h
      simp [ih e2]
    | _ => cases h
theorem g_tup (C : CxS F S X) {es : List Expr} {is : List Nat} {k : Nat} {pos : Pos} (h : slotsT S es = some is) : SoundG X (.Tuple es k pos) is (unF is) := by
  intro β Oo H0 O σ H env env' st v d Q rel rv hg q
  have ne := names_each (env := X.env) h
  unfold unF at hg
  split at hg
  · obtain ⟨a, xs, rfl, h1, h2⟩ := rp_tup rv
    refine (pg_tup C.calm (wgs_pgs X es) ne.1 ne.2).wg ⟨a, xs, rfl, fz_tup h1, ?_, g_names C h rel h2 hg q⟩
    rw [h2.length, setAll_len hg, slotsT_len h]
  · cases rv with
    | lst h1 h2 =>
      refine (pg_unl C.calm (wgs_pgs X es) ne.1 ne.2).wg ⟨_, _, rfl, SqL.of (fz_some h1).2, ?_, g_names C h rel h2 hg q⟩
      rw [h2.length, setAll_len hg, slotsT_len h]
  · cases hg
end
end Iv

set_option maxHeartbeats 4000000
namespace Iv
open PySem PySem.Spec PyProof.Rows L2
/-! ### list comprehensions -/
def relS (scope sc : Scope) : Scope :=
  { scope with names := scope.names.map fun (n, k) => if (k == .free && sc.kind == .function && sc.names.lookup n == some .cell) then (n, .cell) else (n, k) }
def Sx.inner (S : Sx) (scope : Scope) : Sx := { S with sc := relS scope S.sc, blk := true }
def ownOf (N : List Str) : List (Str × NameKind) → List (Str × Nat)
  | [] => []
  | (x, k) :: r => match k, ixOf N x with
    | .local, some i => (x, i) :: ownOf N r
    | .cell, some i => (x, i) :: ownOf N r
    | _, _ => ownOf N r
def lcLoop (g : GF) (t : TF) (e : EF) (env0 : Env') : List D → List D → BSt → Option (List D × BSt)
  | [], acc, st => some (acc, st)
  | d :: ds, acc, st => (g d env0).bind fun env1 => (t env1 st).bind fun p =>
    if p.1 then (e env1 p.2).bind fun q => q.1.d?.bind fun x => if decide (acc.length < sizeLine) then lcLoop g t e env0 ds (acc ++ [x]) q.2 else none
    else lcLoop g t e env0 ds acc p.2
def lcF (i : IF) (own : List Nat) (g : GF) (t : TF) (e : EF) (env : Env') (st : BSt) : Option (R × BSt) := (i env st).bind fun p => (lcLoop g t e (wipeE env own) p.1 [] p.2).map fun q => (.ow (.list q.1), q.2)
def yesT (_ : Env') (st : BSt) : Option (Bool × BSt) := some (true, st)
section
variable {F : FT} {S : Sx} {X : Cx}
theorem CxS.inner (C : CxS F S X) {scope : Scope} (hk : scope.kind = .function) (s : Shared) (H : Hp) (C0 : Addr) (cl : List (Str × Addr)) (fp : List Addr) : CxS F (S.inner scope) (X.blk s H scope (compEnvC scope cl C0 X.env) fp) where
  N := C.N
  sc := by
    show relabel scope X.env = relS scope S.sc
    unfold relabel relS
    rw [← C.sc]
    rfl
  calm := C.calm
  nd := C.nd
  hu := C.hu
  fn := fun h => by cases h
  gl := fun x g e => by
    have h := C.gl x g e
    cases g with
    | blt => exact h
    | cst d => exact h
    | fn => exact h
  xe := rfl
  kind := hk
def SoundTs (X : Cx) (ifs : List Expr) (f : TF) : Prop := ∃ tt, PTs X ifs tt ∧ ∀ ⦃β : Option Addr⦄ ⦃Oo : Addr → Prop⦄ ⦃H0 : Hp⦄ ⦃O : Addr → Prop⦄ ⦃σ : L2.St⦄ ⦃H : Hp⦄ ⦃env : Env'⦄ ⦃st : BSt⦄ ⦃b : Bool⦄ ⦃st' : BSt⦄ ⦃Q : Bool → Hp → Prop⦄,
  Rel X.K β Oo H0 O σ H env st → f env st = some (b, st') → (∀ H', SB β H H' → BagAt β H' st' → Q b H') → tt σ H Q
theorem s_ifs0 : SoundTs X [] yesT := ⟨_, pts_nil, fun _ _ _ _ _ _ _ _ _ _ _ rel h q => by cases h; exact q _ SB.refl rel.bag⟩
theorem s_ifs1 {c : Expr} {f : TF} (h : SoundT X c f) : SoundTs X [c] f := ⟨_, pts_one (wt_pt X c), fun _ _ _ _ _ _ _ _ _ _ _ rel hf q => h rel hf q⟩
def noSetI : Expr → Bool
  | .Set .. => false
  | _ => true
theorem noSetI_ok {e : Expr} (h : noSetI e = true) (env : Env) : ∀ x, foldedSetIterable e env x = pure x := by
  intro x
  cases e <;> first | rfl | cases h
variable {tg iter elt : Expr} {ifs : List Expr} {scope : Scope} {own : List (Str × Nat)} {i : IF} {g : GF} {t : TF} {e : EF} {sl : List Nat}
/-- the reading of the comprehension holds -/
theorem lc_read (C : CxS F S X) (hk : scope.kind = .function) (hi : SoundI X tg iter i) (hsl : ∀ j ∈ sl, j ∈ own.map (·.2))
    (hg : ∀ X', CxS F (S.inner scope) X' → X'.K = X.K → SoundG X' tg sl g) (ht : ∀ X', CxS F (S.inner scope) X' → X'.K = X.K → SoundTs X' ifs t) (he : ∀ X', CxS F (S.inner scope) X' → X'.K = X.K → SoundE X' elt e) :
    ∃ (gg : TG) (tt : TT) (te : TE), (∀ (s : Shared) (H : Hp) (C : Addr) (cl : List (Str × Addr)) (fp : List Addr), PG (X.blk s H scope (compEnvC scope cl C X.env) fp) tg gg) ∧
      (∀ (s : Shared) (H : Hp) (C : Addr) (cl : List (Str × Addr)) (fp : List Addr), PTs (X.blk s H scope (compEnvC scope cl C X.env) fp) ifs tt) ∧
      (∀ (s : Shared) (H : Hp) (C : Addr) (cl : List (Str × Addr)) (fp : List Addr), PE (X.blk s H scope (compEnvC scope cl C X.env) fp) elt te) ∧
      ∀ {β : Option Addr} {Oo : Addr → Prop} {H0 : Hp} {O : Addr → Prop} {σ : L2.St} {H : Hp} {env : Env'} {st : BSt} {r : R} {st' : BSt} {Q : VK},
        Rel X.K β Oo H0 O σ H env st → lcF i (own.map (·.2)) g t e env st = some (r, st') → (∀ v H', SB β H H' → BagAt β H' st' → ResAt X.K β O H H' v r → Q v H') → tLc (Wi X tg iter) gg tt te (own.map (·.2)) σ H Q := by
  refine ⟨fun v σ H Q => ∀ (s : Shared) (H' : Hp) (C : Addr) (cl : List (Str × Addr)) (fp : List Addr), Wg (X.blk s H' scope (compEnvC scope cl C X.env) fp) tg v σ H Q,
    fun σ H Q => ∀ (s : Shared) (H' : Hp) (C : Addr) (cl : List (Str × Addr)) (fp : List Addr), ∃ tt, PTs (X.blk s H' scope (compEnvC scope cl C X.env) fp) ifs tt ∧ tt σ H Q,
    fun σ H Q => ∀ (s : Shared) (H' : Hp) (C : Addr) (cl : List (Str × Addr)) (fp : List Addr), We (X.blk s H' scope (compEnvC scope cl C X.env) fp) elt σ H Q, ?_, ?_, ?_, ?_⟩
  · exact fun s H' C cl fp => ⟨fun pins s1 σ H v u Q I rr h => h s H' C cl fp pins s1 u I rr⟩
  · exact fun s H' C cl fp => ⟨fun pins s1 σ H Q I h => let ⟨tt, pt, q⟩ := h s H' C cl fp; pt.run pins s1 σ H Q I q⟩
  · exact fun s H' C cl fp => ⟨fun pins s1 σ H Q I h => h s H' C cl fp pins s1 I⟩
  intro β Oo H0 O σ H env st r st' Q rel h q
  obtain ⟨⟨ds, s1⟩, e1, h⟩ := bind1 h
  obtain ⟨⟨out, s2⟩, e2, h⟩ := map1 h
  cases h
  refine hi rel e1 fun J Fr H1 sb1 bg1 ok fr => fun D hD => ?_
  have rel1 := rel.step sb1 bg1
  have nD : ¬ O D := rel1.notO hD
  have bD : β ≠ some D := rel1.neB hD
  -- the invariant
  let Pv : Nat → Hp → Prop := fun n Hn => ∃ acc accV sn, lcLoop g t e (wipeE env (own.map (·.2))) (ds.drop n) acc sn = some (out, s2) ∧ BagAt β Hn sn ∧ SB β H1 Hn ∧ Hn D = some (.lst accV) ∧ RpAll X.K (Fz (orO O D) Hn) accV acc
  have relN : ∀ {Hn : Hp} {sn : BSt}, SB β H1 Hn → BagAt β Hn sn → Hn D ≠ none → Rel X.K β Oo H0 (orO O D) (L2.wipe σ (own.map (·.2))) Hn (wipeE env (own.map (·.2))) sn := fun {Hn sn} sb bg hd => by
    have r1 := (rel1.step sb bg).wipe (own.map (·.2))
    have fm : Same (Fz O H1) (Fz (orO O D) Hn) := rel1.putOw_same sb hD
    have r0 := rel1.wipe (own.map (·.2))
    exact { sl := fun j y ej => by
              obtain ⟨v, h1, h2⟩ := r0.sl j y ej
              exact ⟨v, h1, h2.mono fm sb fun a d _ _ z => .inl z⟩
            ne := r1.ne
            fr := r1.fr
            len := r1.len
            sub := fun a ha => .inl (r1.sub a ha)
            dom := fun a ha => by
              rcases ha with ha | rfl
              · exact r1.dom a ha
              · exact hd
            dom0 := r1.dom0
            sb := r1.sb
            bag := bg
            bO := r1.bO }
  have frN : ∀ {Hn : Hp}, SB β H1 Hn → Fr (Fz (orO O D) Hn) := fun sb => ok.mono (rel1.putOw_same sb hD) fr
  refine ⟨fun n m Hn => m = ds.length - n ∧ n ≤ ds.length ∧ Pv n Hn, ⟨ds.length, rfl, Nat.zero_le _, ⟨[], [], s1, by simpa using e2, ?_, SB.laid hD, upd_same, .nil⟩⟩, ?_⟩
  · exact same_bag (same_laid hD) bg1
  rintro n m Hn ⟨rfl, hn, acc, accV, sn, el, bg, sb, hDn, rac⟩
  by_cases hlt : n < ds.length
  · refine .inr ⟨ok.goes hlt (frN sb), fun Hx => Pv (n + 1) Hx, fun Hx px => ⟨ds.length - (n + 1), by omega, rfl, by omega, px⟩, fun x Hy y => ?_⟩
    have rn := relN sb bg (by rw [hDn]; simp)
    obtain ⟨sm, d, ed, rx⟩ := ok.yld hlt rn.dom (frN sb) y
    have edrop : ds.drop n = d :: ds.drop (n + 1) := by
      rw [List.drop_eq_getElem_cons hlt]
      rw [List.getElem?_eq_getElem hlt] at ed
      cases ed; rfl
    rw [edrop] at el
    obtain ⟨env1, g1, el⟩ := bind1 el
    obtain ⟨⟨b, sn1⟩, t1, el⟩ := bind1 el
    have rny := rn.step (same_sb sm) (same_bag sm bg)
    intro s H' C0 cl fp
    refine hg _ (C.inner hk s H' C0 cl fp) rfl rny rx g1 fun σ2 rel2 hl2 hk2 => ⟨?_, ?_⟩
    · refine (wipe_eq hl2 fun j hj => hk2 j fun z => hj (hsl j z)).trans ?_
      refine wipe_eq (wipe_length _ _) fun j hj => wipe_get hj
    intro s' H'' C0' cl' fp'
    obtain ⟨tt, pt, ht'⟩ := ht _ (C.inner hk s' H'' C0' cl' fp') rfl
    refine ⟨tt, pt, ht' rel2 t1 fun H3 sb3 bg3 => ?_⟩
    have smD : ∀ {Ha Hb : Hp} {o : HO}, SB β Ha Hb → Ha D = some o → Hb D = some o := fun s q => s D _ bD q
    cases b with
    | false =>
      refine iteF ⟨acc, accV, sn1, el, bg3, sb.trans ((same_sb sm).trans sb3), smD sb3 (sm _ _ hDn), ?_⟩
      exact (rac.mono (same_fz sm)).mono (rel2.fzm sb3)
    | true =>
      refine iteT ?_
      intro s4 H4' C4 cl4 fp4
      obtain ⟨⟨rr, sn2⟩, e3, el⟩ := bind1 el
      obtain ⟨dx, e4, el⟩ := bind1 el
      have hsz : acc.length < sizeLine ∧ lcLoop g t e (wipeE env (own.map (·.2))) (ds.drop (n + 1)) (acc ++ [dx]) sn2 = some (out, s2) := by
        cases hc : decide (acc.length < sizeLine) with
        | false => simp only [hc] at el; cases el
        | true => simp only [hc, if_true] at el; exact ⟨of_decide_eq_true hc, el⟩
      have rel3 := rel2.step sb3 bg3
      refine he _ (C.inner hk s4 H4' C4 cl4 fp4) rfl rel3 e3 fun y H4 sb4 bg4 ry => ?_
      have ry' := ry.rp rel3 e4
      have hD4 := smD sb4 (smD sb3 (sm _ _ hDn))
      have ra4 := ((rac.mono (same_fz sm)).mono (rel2.fzm sb3)).mono (rel3.fzm sb4)
      refine ⟨accV, hD4, by rw [ra4.length]; exact hsz.1, acc ++ [dx], accV ++ [y], sn2, hsz.2, ?_, ?_, upd_same, ?_⟩
      · exact bg4.mono fun b0 o hb0 e => by rw [upd_ne (fun z => bD (by rw [hb0, z]))]; exact e
      · intro a o hna ea
        have ap : a ≠ D := ne_of_none ea hD
        rw [upd_ne ap]
        exact sb4 a o hna (sb3 a o hna (same_sb sm a o hna (sb a o hna ea)))
      · refine (ra4.append (.one ry')).mono fun a o ea => ?_
        obtain ⟨na, ea⟩ := fz_some ea
        rw [fz_out na, upd_ne (fun z => na (.inr z))]
        exact ea
  · have en : n = ds.length := by omega
    subst en
    rw [List.drop_length] at el
    cases el
    refine .inl ⟨ok.stops (frN sb), q _ _ (sb1.trans sb) bg ⟨D, rfl, ?_, bD, accV, hDn, rac⟩⟩
    cases eh : H D with
    | none => rfl
    | some o => rw [sb1 D o bD eh] at hD; cases hD
theorem s_lc (C : CxS F S X) (hk : scope.kind = .function) (ok : blkC S.N S.sc scope own = true) (hni : noSetI iter = true) {pos : Pos} (hi : SoundI X tg iter i) (hsl : ∀ j ∈ sl, j ∈ own.map (·.2))
    (hg : ∀ X', CxS F (S.inner scope) X' → X'.K = X.K → SoundG X' tg sl g) (ht : ∀ X', CxS F (S.inner scope) X' → X'.K = X.K → SoundTs X' ifs t) (he : ∀ X', CxS F (S.inner scope) X' → X'.K = X.K → SoundE X' elt e) :
    SoundE X (.ListComp elt [⟨tg, iter, ifs, 0⟩] scope pos) (lcF i (own.map (·.2)) g t e) := by
  obtain ⟨gg, tt, te, h1, h2, h3, h4⟩ := lc_read C hk hi hsl hg ht he
  intro β Oo H0 O σ H env st r st' Q rel h q
  have bo : BlkOk X.N X.env.scope scope own := by rw [C.N, C.sc]; exact blkOk_by ok
  exact (pe_lc C.calm (by rw [C.N]; exact C.nd) (wi_pi X tg iter) bo h1 h2 h3 (noSetI_ok hni X.env)).we (h4 rel h q)
end
end Iv

set_option maxHeartbeats 4000000
namespace Iv
open PySem PySem.Spec PyProof.Rows L2
/-! ### statements -/
inductive Out where
  | nx | rt (r : R) | bk | ct
abbrev SF := Env' → BSt → Option (Out × Env' × BSt)
def Ws (X : Cx) (s : Stmt) : TS := fun D σ H => ∀ pins sh, Inv X pins σ H sh → wpAny (model X.prog X.w) X.A (exec s X.env) (SP X pins D) X.xe sh
def Wss (X : Cx) (s : List Stmt) : TS := fun D σ H => ∀ pins sh, Inv X pins σ H sh → wpAny (model X.prog X.w) X.A (execs s X.env) (SP X pins D) X.xe sh
theorem ws_ps (X : Cx) (s : Stmt) : PS X s (Ws X s) := ⟨fun pins sh _ _ _ I h => h pins sh I⟩
theorem wss_pss (X : Cx) (s : List Stmt) : PSs X s (Wss X s) := ⟨fun pins sh _ _ _ I h => h pins sh I⟩
theorem _root_.L2.PS.ws {X : Cx} {s : Stmt} {t : TS} {D : Ends} {σ : L2.St} {H : Hp} (h : PS X s t) (q : t D σ H) : Ws X s D σ H := fun pins sh I => h.run pins sh σ H D I q
theorem _root_.L2.PSs.wss {X : Cx} {s : List Stmt} {t : TS} {D : Ends} {σ : L2.St} {H : Hp} (h : PSs X s t) (q : t D σ H) : Wss X s D σ H := fun pins sh I => h.run pins sh σ H D I q
def Post (K : PySem.W.Frag) (β : Option Addr) (Oo : Addr → Prop) (H0 : Hp) (O : Addr → Prop) (H : Hp) (D : Ends) : Out → Env' → BSt → Prop
  | .nx, env', st' => ∀ σ' H' O', Rel K β Oo H0 O' σ' H' env' st' → Same (Fz O H) (Fz O' H') → D.nx σ' H'
  | .bk, env', st' => ∀ σ' H' O', Rel K β Oo H0 O' σ' H' env' st' → Same (Fz O H) (Fz O' H') → D.bk σ' H'
  | .ct, env', st' => ∀ σ' H' O', Rel K β Oo H0 O' σ' H' env' st' → Same (Fz O H) (Fz O' H') → D.ct σ' H'
  | .rt r, _, st' => ∀ v H', SB β H0 H' → BagAt β H' st' → ResAt K β Oo H0 H' v r → D.rt v H'
theorem Post.mono {K : PySem.W.Frag} {β : Option Addr} {Oo : Addr → Prop} {H0 : Hp} {O O1 : Addr → Prop} {H H1 : Hp} {D : Ends} {o : Out} {env' : Env'} {st' : BSt} (h : Post K β Oo H0 O H D o env' st') (e : Same (Fz O H) (Fz O1 H1)) : Post K β Oo H0 O1 H1 D o env' st' := by
  cases o with
  | nx => exact fun σ' H' O' r s => h σ' H' O' r (e.trans s)
  | bk => exact fun σ' H' O' r s => h σ' H' O' r (e.trans s)
  | ct => exact fun σ' H' O' r s => h σ' H' O' r (e.trans s)
  | rt r => exact h
def SoundS (X : Cx) (s : Stmt) (f : SF) : Prop := ∀ ⦃β : Option Addr⦄ ⦃Oo : Addr → Prop⦄ ⦃H0 : Hp⦄ ⦃O : Addr → Prop⦄ ⦃σ : L2.St⦄ ⦃H : Hp⦄ ⦃env env' : Env'⦄ ⦃st st' : BSt⦄ ⦃o : Out⦄ ⦃D : Ends⦄,
  Rel X.K β Oo H0 O σ H env st → f env st = some (o, env', st') → Post X.K β Oo H0 O H D o env' st' → Ws X s D σ H
def SoundSs (X : Cx) (s : List Stmt) (f : SF) : Prop := ∀ ⦃β : Option Addr⦄ ⦃Oo : Addr → Prop⦄ ⦃H0 : Hp⦄ ⦃O : Addr → Prop⦄ ⦃σ : L2.St⦄ ⦃H : Hp⦄ ⦃env env' : Env'⦄ ⦃st st' : BSt⦄ ⦃o : Out⦄ ⦃D : Ends⦄,
  Rel X.K β Oo H0 O σ H env st → f env st = some (o, env', st') → Post X.K β Oo H0 O H D o env' st' → Wss X s D σ H
def failS (_ : Env') (_ : BSt) : Option (Out × Env' × BSt) := none
def skipS (env : Env') (st : BSt) : Option (Out × Env' × BSt) := some (.nx, env, st)
def seqS (f g : SF) (env : Env') (st : BSt) : Option (Out × Env' × BSt) := (f env st).bind fun p => match p.1 with
  | .nx => g p.2.1 p.2.2
  | o => some (o, p.2)
section
variable {F : FT} {S : Sx} {X : Cx}
theorem ss_fail {s : Stmt} : SoundS X s failS := fun _ _ _ _ _ _ _ _ _ _ _ _ _ h => by cases h
theorem ss_nil : SoundSs X [] skipS := fun _ _ _ _ _ _ _ _ _ _ _ _ rel h q => by cases h; exact pss_nil.wss (q _ _ _ rel (Same.refl _))
theorem ss_cons {s : Stmt} {ss : List Stmt} {f g : SF} (hf : SoundS X s f) (hg : SoundSs X ss g) : SoundSs X (s :: ss) (seqS f g) := by
  intro β Oo H0 O σ H env env' st st' o D rel h q
  obtain ⟨⟨o1, env1, st1⟩, e1, h⟩ := bind1 h
  refine (pss_cons (ws_ps X s) (wss_pss X ss)).wss (hf rel e1 ?_)
  cases o1 with
  | nx => exact fun σ1 H1 O1 rel1 sm => hg rel1 h (q.mono sm)
  | bk => cases h; exact q
  | ct => cases h; exact q
  | rt r => cases h; exact q
theorem ss_pass {pos : Pos} : SoundS X (.Pass pos) skipS := fun _ _ _ _ _ _ _ _ _ _ _ _ rel h q => by cases h; exact ps_pass.ws (q _ _ _ rel (Same.refl _))
theorem ss_break {pos : Pos} : SoundS X (.Break pos) (fun env st => some (.bk, env, st)) := fun _ _ _ _ _ _ _ _ _ _ _ _ rel h q => by cases h; exact ps_break.ws (q _ _ _ rel (Same.refl _))
theorem ss_continue {pos : Pos} : SoundS X (.Continue pos) (fun env st => some (.ct, env, st)) := fun _ _ _ _ _ _ _ _ _ _ _ _ rel h q => by cases h; exact ps_continue.ws (q _ _ _ rel (Same.refl _))
/-! freezing -/
def frz1 (i : Nat) (env : Env') : Env' := match env[i]? with
  | some (some (.ow d)) => env.set i (some (.fz d))
  | _ => env
def frzs : List Nat → Env' → Env'
  | [], env => env
  | i :: is, env => frzs is (frz1 i env)
theorem rp_of_ow {K : PySem.W.Frag} {O O' : Addr → Prop} {H : Hp} {a : Addr} {d : D} (h : OwAt K O H a d) (hOa : O a) (hO : ∀ b, O' b → O b) (ha : ¬ O' a) : Rp K (Fz O' H) (.ref a) d := by
  refine rp_of_fresh ha (OwAt.mono (O := O) h ?_ fun o q => q)
  intro b o q
  obtain ⟨n, q⟩ := fz_some q
  rw [fz_out (fun z => z.elim (fun z => n (hO b z)) fun z => n (by rw [z]; exact hOa))]; exact q
theorem Rel.frz1 {K : PySem.W.Frag} {β : Option Addr} {Oo O : Addr → Prop} {H0 H : Hp} {σ : L2.St} {env : Env'} {st : BSt} (r : Rel K β Oo H0 O σ H env st) (i : Nat) : ∃ O', Rel K β Oo H0 O' σ H (frz1 i env) st ∧ Same (Fz O H) (Fz O' H) := by
  unfold Iv.frz1
  split
  · rename_i d e
    obtain ⟨v, hv, a, rfl, hO, hn, how⟩ := r.sl i _ e
    have a0 := r.fr i d a e hv
    have hsub : ∀ b, (O b ∧ b ≠ a) → O b := fun b z => z.1
    have fm : Same (Fz O H) (Fz (fun b => O b ∧ b ≠ a) H) := fz_mono hsub fun b o _ q => q
    have sig : ∀ (j : Nat) d', j ≠ i → env[j]? = some (some (.ow d')) → ∀ b, σ[j]? = some (some (.ref b)) → b ≠ a := fun j d' hj e' b hb z => by
      subst z
      exact r.ne i j d d' b (fun z => hj z.symm) e e' hv hb
    refine ⟨fun b => O b ∧ b ≠ a, ?_, fm⟩
    exact {
      sl := fun j y ej => by
        rcases get_set ej with ⟨rfl, _, z⟩ | ⟨hj, ej⟩
        · cases z; exact ⟨_, hv, rp_of_ow how hO hsub (fun z => z.2 rfl)⟩
        · obtain ⟨w, h1, h2⟩ := r.sl j y ej
          exact ⟨w, h1, h2.mono fm SB.refl fun b d' hd hw hb => ⟨hb, sig j d' hj (by rw [ej, hd]) b (by rw [h1, hw])⟩⟩
      ne := fun j k d' e' b hjk h1 h2 h3 => by
        rcases get_set h1 with ⟨_, _, z⟩ | ⟨hj, h1⟩
        · cases z
        rcases get_set h2 with ⟨_, _, z⟩ | ⟨hk, h2⟩
        · cases z
        exact r.ne j k d' e' b hjk h1 h2 h3
      fr := fun j d' b h1 h2 => by
        rcases get_set h1 with ⟨_, _, z⟩ | ⟨hj, h1⟩
        · cases z
        exact r.fr j d' b h1 h2
      len := by rw [List.length_set]; exact r.len
      sub := fun b hb => ⟨r.sub b hb, fun z => r.dom0 b hb (by rw [z]; exact a0)⟩
      dom := fun b hb => r.dom b hb.1
      dom0 := r.dom0
      sb := r.sb
      bag := r.bag
      bO := r.bO }
  · exact ⟨O, r, Same.refl _⟩
theorem Rel.frzs {K : PySem.W.Frag} {β : Option Addr} {Oo : Addr → Prop} {H0 H : Hp} {σ : L2.St} {st : BSt} : ∀ (is : List Nat) {O : Addr → Prop} {env : Env'}, Rel K β Oo H0 O σ H env st → ∃ O', Rel K β Oo H0 O' σ H (frzs is env) st ∧ Same (Fz O H) (Fz O' H)
  | [], O, _, r => ⟨O, r, Same.refl _⟩
  | i :: is, O, _, r => by
    obtain ⟨O1, r1, s1⟩ := r.frz1 i
    obtain ⟨O2, r2, s2⟩ := Rel.frzs is r1
    exact ⟨O2, r2, s1.trans s2⟩
def frzS (is : List Nat) (f : SF) (env : Env') (st : BSt) : Option (Out × Env' × BSt) := f (frzs is env) st
theorem ss_frz {s : Stmt} {f : SF} (is : List Nat) (h : SoundS X s f) : SoundS X s (frzS is f) := fun _ _ _ _ _ _ _ _ _ _ _ _ rel hf q => by
  obtain ⟨O', r', sm⟩ := rel.frzs is
  exact h r' hf (q.mono sm)
/-! ### return -/
theorem ResAt.out {K : PySem.W.Frag} {β : Option Addr} {Oo O : Addr → Prop} {H0 H H' : Hp} {σ : L2.St} {env : Env'} {st : BSt} (r : Rel K β Oo H0 O σ H env st) {v : V} {x : R} (h : ResAt K β O H H' v x) : ResAt K β Oo H0 H' v x := by
  cases x with
  | fz d => exact Rp.mono (fz_mono r.sub fun a o _ q => q) h
  | ow d =>
    obtain ⟨p, h1, h2, h3, h4⟩ := h
    refine ⟨p, h1, ?_, h3, h4.mono (fz_mono (fun a z => z.elim (fun z => .inl (r.sub a z)) .inr) fun a o _ q => q) fun o q => q⟩
    cases e : H0 p with
    | none => rfl
    | some o => rw [r.sb p o h3 e] at h2; cases h2
  | bag => exact h
  | scr _ => exact h
def retF (f : EF) (env : Env') (st : BSt) : Option (Out × Env' × BSt) := (f env st).map fun p => (.rt p.1, env, p.2)
theorem ss_ret {e : Expr} {f : EF} {pos : Pos} (he : SoundE X e f) : SoundS X (.Return (some e) pos) (retF f) := by
  intro β Oo H0 O σ H env env' st st' o D rel h q
  obtain ⟨⟨r, s1⟩, e1, h⟩ := map1 h
  cases h
  exact (ps_ret (we_pe X e)).ws (he rel e1 fun v H1 sb1 bg1 rv => q v H1 (rel.sb.trans sb1) bg1 (rv.out rel))
def retN (S : Sx) (x : Str) (f : SF) (env : Env') (st : BSt) : Option (Out × Env' × BSt) := match slotOf S x with
  | some i => (match env[i]? with
    | some (some (.ow d)) => some (.rt (.ow d), env, st)
    | _ => f env st)
  | none => f env st
theorem ss_retN (C : CxS F S X) {x : Str} {f : SF} {p pos : Pos} (hf : SoundS X (.Return (some (.Name x p)) pos) f) : SoundS X (.Return (some (.Name x p)) pos) (retN S x f) := by
  intro β Oo H0 O σ H env env' st st' o D rel h q
  unfold retN at h
  cases e : slotOf S x with
  | none => rw [e] at h; exact hf rel h q
  | some i =>
    rw [e] at h
    obtain ⟨h1, h2, h3, h4⟩ := slotOf_ok C e
    dsimp only at h
    split at h
    · rename_i d e2
      cases h
      obtain ⟨v, hv, a, rfl, hO, hn, how⟩ := rel.sl i _ e2
      refine (ps_ret (pe_var h1 h2 h3 h4)).ws ⟨_, hv, q _ H rel.sb rel.bag ⟨a, rfl, rel.fr i d a e2 hv, hn, how.mono ?_ fun o q => q⟩⟩
      exact fz_mono (fun b z => z.elim (rel.sub b) fun z => by rw [z]; exact hO) fun b o _ q => q
    · exact hf rel h q
/-! ### if, while, for -/
def ifS (c : TF) (f g : SF) (env : Env') (st : BSt) : Option (Out × Env' × BSt) := (c env st).bind fun p => if p.1 then f env p.2 else g env p.2
theorem ss_if {c : Expr} {a b : List Stmt} {k : TF} {f g : SF} {pos : Pos} (hc : SoundT X c k) (ha : SoundSs X a f) (hb : SoundSs X b g) : SoundS X (.If c a b pos) (ifS k f g) := by
  intro β Oo H0 O σ H env env' st st' o D rel h q
  obtain ⟨⟨b, s1⟩, e1, h⟩ := bind1 h
  refine (ps_if (wt_pt X c) (wss_pss X a) (wss_pss X _)).ws (hc rel e1 fun H1 sb1 bg1 => ?_)
  have rel1 := rel.step sb1 bg1
  cases b with
  | true => exact iteT (ha rel1 h (q.mono (rel.fzm sb1)))
  | false => exact iteF (hb rel1 h (q.mono (rel.fzm sb1)))
def whileN (c : TF) (f : SF) : Nat → SF
  | 0 => failS
  | n + 1 => fun env st => (c env st).bind fun p => if p.1 then (f env p.2).bind fun q => (match q.1 with
      | .nx => whileN c f n q.2.1 q.2.2
      | .ct => whileN c f n q.2.1 q.2.2
      | .bk => some (.nx, q.2)
      | .rt r => some (.rt r, q.2)) else some (.nx, env, p.2)
/-- any way to find how a loop ends, that tells no lies -/
abbrev Wh := TF → SF → SF
def WhOk (w : Wh) : Prop := ∀ c f env st r, w c f env st = some r → ∃ n, whileN c f n env st = some r
theorem ss_while (C : CxS F S X) {w : Wh} (hw : WhOk w) {c : Expr} {a : List Stmt} {k : TF} {f : SF} {pos : Pos} (hc : SoundT X c k) (ha : SoundSs X a f) : SoundS X (.While c a [] pos) (w k f) := by
  intro β Oo H0 O σ H env env' st st' o D rel h q
  obtain ⟨n, h⟩ := hw _ _ _ _ _ h
  refine (ps_while (by rw [C.xe]; exact PassesOwn.never) (wt_pt X c) (wss_pss X a)).ws ?_
  refine ⟨fun m σm Hm => ∃ O1 env1 st1, Rel X.K β Oo H0 O1 σm Hm env1 st1 ∧ Same (Fz O H) (Fz O1 Hm) ∧ whileN k f m env1 st1 = some (o, env', st'), ⟨n, O, env, st, rel, Same.refl _, h⟩, ?_⟩
  rintro m σm Hm ⟨O1, env1, st1, rel1, sm1, e1⟩
  cases m with
  | zero => cases e1
  | succ m =>
    obtain ⟨⟨b, s2⟩, e2, e1⟩ := bind1 e1
    refine hc rel1 e2 fun H2 sb2 bg2 => ?_
    have rel2 := rel1.step sb2 bg2
    have sm2 := sm1.trans (rel1.fzm sb2)
    cases b with
    | false => cases e1; exact iteF (q _ _ _ rel2 sm2)
    | true =>
      refine iteT ⟨fun σ' H' => ∃ O1 env1 st1, Rel X.K β Oo H0 O1 σ' H' env1 st1 ∧ Same (Fz O H) (Fz O1 H') ∧ whileN k f m env1 st1 = some (o, env', st'), fun σ' H' z => ⟨m, Nat.lt_succ_self m, z⟩, ?_⟩
      obtain ⟨⟨o3, env3, st3⟩, e3, e1⟩ := bind1 e1
      refine ha rel2 e3 ?_
      cases o3 with
      | nx => exact fun σ' H' O' r' s' => ⟨O', env3, st3, r', sm2.trans s', e1⟩
      | ct => exact fun σ' H' O' r' s' => ⟨O', env3, st3, r', sm2.trans s', e1⟩
      | bk => cases e1; exact fun σ' H' O' r' s' => q σ' H' O' r' (sm2.trans s')
      | rt r => cases e1; exact q
def forL (g : GF) (f : SF) : List D → SF
  | [] => skipS
  | d :: ds => fun env st => (g d env).bind fun env1 => (f env1 st).bind fun q => match q.1 with
      | .nx => forL g f ds q.2.1 q.2.2
      | .ct => forL g f ds q.2.1 q.2.2
      | .bk => some (.nx, q.2)
      | .rt r => some (.rt r, q.2)
def forF (i : IF) (g : GF) (f : SF) (env : Env') (st : BSt) : Option (Out × Env' × BSt) := (i env st).bind fun p => forL g f p.1 env p.2
theorem ss_for (C : CxS F S X) {tg it : Expr} {a : List Stmt} {i : IF} {g : GF} {sl : List Nat} {f : SF} {pos : Pos} (hni : noSetI it = true) (hi : SoundI X tg it i) (hg : SoundG X tg sl g) (ha : SoundSs X a f) : SoundS X (.For tg it a [] pos) (forF i g f) := by
  intro β Oo H0 O σ H env env' st st' o D rel h q
  obtain ⟨⟨ds, s1⟩, e1, h⟩ := bind1 h
  refine (ps_for (by rw [C.xe]; exact PassesOwn.never) C.calm (wi_pi X tg it) (wg_pg X tg) (wss_pss X a) (noSetI_ok hni X.env)).ws (hi rel e1 fun J Fr H1 sb1 bg1 ok fr => ?_)
  have rel1 := rel.step sb1 bg1
  refine ⟨fun n m σm Hm => m = ds.length - n ∧ n ≤ ds.length ∧ ∃ O1 env1 st1, Rel X.K β Oo H0 O1 σm Hm env1 st1 ∧ Same (Fz O H1) (Fz O1 Hm) ∧ forL g f (ds.drop n) env1 st1 = some (o, env', st'),
    ⟨ds.length, rfl, Nat.zero_le _, O, env, s1, rel1, Same.refl _, by simpa using h⟩, ?_⟩
  rintro n m σm Hm ⟨rfl, hn, O1, env1, st1, rel2, sm2, e2⟩
  have fr2 := ok.mono sm2 fr
  by_cases hlt : n < ds.length
  · refine .inr ⟨ok.goes hlt fr2, fun σ' H' => ∃ O1 env1 st1, Rel X.K β Oo H0 O1 σ' H' env1 st1 ∧ Same (Fz O H1) (Fz O1 H') ∧ forL g f (ds.drop (n + 1)) env1 st1 = some (o, env', st'),
      fun σ' H' z => ⟨ds.length - (n + 1), by omega, rfl, by omega, z⟩, fun x H3 y => ?_⟩
    obtain ⟨sm, d, ed, rx⟩ := ok.yld hlt rel2.dom fr2 y
    have edrop : ds.drop n = d :: ds.drop (n + 1) := by
      rw [List.drop_eq_getElem_cons hlt]
      rw [List.getElem?_eq_getElem hlt] at ed
      cases ed; rfl
    rw [edrop] at e2
    obtain ⟨env3, g3, e2⟩ := bind1 e2
    obtain ⟨⟨o4, env4, st4⟩, e4, e2⟩ := bind1 e2
    have rel3 := rel2.step (same_sb sm) (same_bag sm rel2.bag)
    have sm3 := sm2.trans (same_fz sm)
    refine hg rel3 rx g3 fun σ4 rel4 _ _ => ha rel4 e4 ?_
    cases o4 with
    | nx => exact fun σ' H' O' r' s' => ⟨O', env4, st4, r', sm3.trans s', e2⟩
    | ct => exact fun σ' H' O' r' s' => ⟨O', env4, st4, r', sm3.trans s', e2⟩
    | bk => cases e2; exact fun σ' H' O' r' s' => q σ' H' O' r' ((rel.fzm sb1).trans (sm3.trans s'))
    | rt r => cases e2; exact q
  · have en : n = ds.length := by omega
    subst en
    rw [List.drop_length] at e2
    cases e2
    exact .inl ⟨ok.stops fr2, q σm Hm O1 rel2 ((rel.fzm sb1).trans sm2)⟩
end
end Iv

set_option maxHeartbeats 4000000
namespace Iv
open PySem PySem.Spec PyProof.Rows L2
section
variable {F : FT} {S : Sx} {X : Cx}
/-- a result goes into a slot -/
theorem Rel.store {K : PySem.W.Frag} {β : Option Addr} {Oo O : Addr → Prop} {H0 H H' : Hp} {σ : L2.St} {env : Env'} {st st' : BSt} (r : Rel K β Oo H0 O σ H env st) (i : Nat) {v : V} {x : R} (sb : SB β H H') (bg : BagAt β H' st') (h : ResAt K β O H H' v x) :
    ∃ O', Rel K β Oo H0 O' (σ.set i (some v)) H' (env.set i (some x)) st' ∧ Same (Fz O H) (Fz O' H') ∧ ∀ a, O a → O' a := by
  cases x with
  | fz d => exact ⟨O, (r.step sb bg).put i (x := .fz d) h (fun _ z => by cases z), r.fzm sb, fun _ z => z⟩
  | ow d =>
    obtain ⟨p, rfl, h1, h2, h3⟩ := h
    exact ⟨orO O p, r.putOw i sb bg h1 h2 h3, r.putOw_same sb h1, fun _ z => .inl z⟩
  | bag => exact ⟨O, (r.step sb bg).put i (x := .bag) h (fun _ z => by cases z), r.fzm sb, fun _ z => z⟩
  | scr ns => exact ⟨O, (r.step sb bg).put i (x := .scr ns) h (fun _ z => by cases z), r.fzm sb, fun _ z => z⟩
def noComp : Expr → Bool
  | .ListComp .. => false | .SetComp .. => false | .DictComp .. => false
  | _ => true
theorem noComp_ok {e : Expr} (h : noComp e = true) (t : Option Expr) (l : Nat) (env : Env) : swapsWith e t l env = pure false := by
  cases e <;> first | rfl | cases h
def asgF (i : Nat) (f : EF) (env : Env') (st : BSt) : Option (Out × Env' × BSt) := (f env st).map fun p => (.nx, env.set i (some p.1), p.2)
theorem ss_asg (C : CxS F S X) {x : Str} {i : Nat} {e : Expr} {f : EF} {p pos : Pos} (hx : tgtSlot S x = some i) (hc : noComp e = true) (he : SoundE X e f) : SoundS X (.Assign [.Name x p] e pos) (asgF i f) := by
  intro β Oo H0 O σ H env env' st st' o D rel h q
  obtain ⟨⟨r, s1⟩, e1, h⟩ := map1 h
  cases h
  obtain ⟨h1, h2, h3, h4⟩ := tgtSlot_ok C hx
  refine (ps_set h1 h2 h3 (we_pe X e) (noComp_ok hc _ _ _) h4).ws (he rel e1 fun v H1 sb1 bg1 rv => ?_)
  obtain ⟨O', r', sm, _⟩ := rel.store i sb1 bg1 rv
  exact q _ _ _ r' sm
variable {tg iter elt : Expr} {ifs : List Expr} {scope : Scope} {own : List (Str × Nat)} {ii : IF} {g : GF} {t : TF} {e : EF} {sl : List Nat}
/-- y = [..] -/
theorem ss_asgLc (C : CxS F S X) (hk : scope.kind = .function) (ok : blkC S.N S.sc scope own = true) (hni : noSetI iter = true) {y : Str} {i : Nat} {p pos spos : Pos} (hx : tgtSlot S y = some i) (hi : SoundI X tg iter ii) (hsl : ∀ j ∈ sl, j ∈ own.map (·.2))
    (hg : ∀ X', CxS F (S.inner scope) X' → X'.K = X.K → SoundG X' tg sl g) (ht : ∀ X', CxS F (S.inner scope) X' → X'.K = X.K → SoundTs X' ifs t) (he : ∀ X', CxS F (S.inner scope) X' → X'.K = X.K → SoundE X' elt e) :
    SoundS X (.Assign [.Name y p] (.ListComp elt [⟨tg, iter, ifs, 0⟩] scope pos) spos) (asgF i (lcF ii (own.map (·.2)) g t e)) := by
  obtain ⟨gg, tt, te, k1, k2, k3, k4⟩ := lc_read C hk hi hsl hg ht he
  intro β Oo H0 O σ H env env' st st' o D rel h q
  obtain ⟨⟨r, s1⟩, e1, h⟩ := map1 h
  cases h
  obtain ⟨h1, h2, h3, h4⟩ := tgtSlot_ok C hx
  have bo : BlkOk X.N X.env.scope scope own := by rw [C.N, C.sc]; exact blkOk_by ok
  have rd : tAsg (tLc (Wi X tg iter) gg tt te (own.map (·.2))) (gName i) D σ H := k4 rel e1 fun v H1 sb1 bg1 rv => by
    obtain ⟨O', r', sm, _⟩ := rel.store i sb1 bg1 rv
    exact q _ _ _ r' sm
  have sw : swapsWith (.ListComp elt [⟨tg, iter, ifs, 0⟩] scope pos) (some (.Name y p)) spos.line X.env = pure (X.env.blockKind == .function && X.env.kindOf y == some .local && p.line == pos.line && !(scope.names.any fun (n, k) => n == y && (k == .local || k == .cell))) := rfl
  cases hb : (X.env.blockKind == .function && X.env.kindOf y == some .local && p.line == pos.line && !(scope.names.any fun (n, k) => n == y && (k == .local || k == .cell))) with
  | true =>
    rw [hb] at sw
    have hy : X.env.scope.names.lookup y = some .local := by
      simp only [Bool.and_eq_true] at hb
      exact eq_of_beq hb.1.1.2
    exact (ps_setLc C.calm h1 h2 hy sw (wi_pi X tg iter) bo k1 k2 k3 (noSetI_ok hni X.env)).ws rd
  | false =>
    rw [hb] at sw
    exact (ps_set h1 h2 h3 (pe_lc C.calm h1 (wi_pi X tg iter) bo k1 k2 k3 (noSetI_ok hni X.env)) sw h4).ws rd
/-- a, b = e: unpacked -/
def noTup : Expr → Bool
  | .Tuple .. => false
  | _ => true
theorem noTup_ok {v : Expr} (h : noTup v = true) (ts : List Expr) (k : Nat) (pos : Pos) (env : Env) : swappedStores [.Tuple ts k pos] v env = pure none := by
  cases v <;> first | rfl | cases h
theorem sole_ok (v : Expr) (ts : List Expr) (k : Nat) (pos : Pos) (l : Nat) (env : Env) : swapsWithSole [.Tuple ts k pos] v l env = pure false := by
  cases v <;> rfl
def unpF (f : EF) (g : GF) (env : Env') (st : BSt) : Option (Out × Env' × BSt) := (f env st).bind fun p => p.1.d?.bind fun d => (g d env).map fun env' => (.nx, env', p.2)
theorem ss_unp {ts : List Expr} {k : Nat} {pt pos : Pos} {v : Expr} {f : EF} (hn : noTup v = true) (he : SoundE X v f) (hg : SoundG X (.Tuple ts k pt) sl g) : SoundS X (.Assign [.Tuple ts k pt] v pos) (unpF f g) := by
  intro β Oo H0 O σ H env env' st st' o D rel h q
  obtain ⟨⟨r, s1⟩, e1, h⟩ := bind1 h
  obtain ⟨d, e2, h⟩ := bind1 h
  obtain ⟨env1, e3, h⟩ := map1 h
  cases h
  refine (ps_asg (we_pe X v) (wg_pg X _) (sole_ok v ts k pt _ _) (noTup_ok hn ts k pt X.env) rfl).ws (he rel e1 fun w H1 sb1 bg1 rv => ?_)
  have rel1 := rel.step sb1 bg1
  exact hg rel1 (rv.rp rel e2) e3 fun σ' r' _ _ => q _ _ _ r' (rel.fzm sb1)
/-! several at once -/
def swap2 (S : Sx) (x y : Str) (px py : Pos) (a b : Expr) : Bool :=
  decide (S.sc.names.lookup x = some .local) && decide (S.sc.names.lookup y = some .local) && (py.line == px.line) && decide (x ≠ y) && noStar a && noStar b && !([a, b].all (foldedForSure 8)) && !([a, b].all (constantsAlone 8))
theorem noStar_any (a : Expr) : noStar a = true → (match a with | .Starred .. => true | _ => false) = false := by
  intro h
  cases a <;> first | rfl | cases h
theorem blockKind_ok {env : Env} (h : env.scope.kind = .function) : env.blockKind = .function := by unfold Env.blockKind; rw [h]; rfl
theorem swap2_ok (C : CxS F S X) {x y : Str} {px py pt pt2 : Pos} {k k2 : Nat} {a b : Expr} (h : swap2 S x y px py a b = true) :
    swappedStores [.Tuple [.Name x px, .Name y py] k pt] (.Tuple [a, b] k2 pt2) X.env = pure (some [x, y]) ∧ X.env.scope.names.lookup x = some .local ∧ X.env.scope.names.lookup y = some .local ∧ x ≠ y ∧ noStar a = true ∧ noStar b = true := by
  unfold swap2 at h
  simp only [Bool.and_eq_true, decide_eq_true_eq, Bool.not_eq_true'] at h
  obtain ⟨⟨⟨⟨⟨⟨⟨h1, h2⟩, h3⟩, h4⟩, h5⟩, h6⟩, h7⟩, h8⟩ := h
  rw [← C.sc] at h1 h2
  refine ⟨?_, h1, h2, h4, h5, h6⟩
  have k1 : X.env.kindOf x = some .local := h1
  have k2' : X.env.kindOf y = some .local := h2
  have bk := blockKind_ok C.kind
  have n1 := noStar_any a h5
  have n2 := noStar_any b h6
  have h3' : py.line = px.line := eq_of_beq h3
  have fm : ([Expr.Name x px, Expr.Name y py].filterMap fun
    | .Name id pos => if X.env.kindOf id == some .local && pos.line == px.line then some id else none
    | _ => none) = [x, y] := by
    rw [List.filterMap_cons, List.filterMap_cons, List.filterMap_nil]
    simp [k1, k2', h3']
  have ed : ([x, y] : List Str).eraseDups.length = 2 := by
    rw [List.eraseDups_cons]
    simp [List.eraseDups_cons, Ne.symm h4]
  have an : ([a, b].any fun | .Starred .. => true | _ => false) = false := by
    simp only [List.any_cons, List.any_nil, Bool.or_false]
    exact Bool.or_eq_false_iff.mpr ⟨n1, n2⟩
  unfold swappedStores
  simp only [List.length_cons, List.length_nil, bk, h7, h8, List.head?_cons, Option.map_some, Option.getD_some, Expr.pos]
  refine (if_neg (by decide)).trans ((if_neg (fun z => Bool.noConfusion (an.symm.trans z))).trans ((if_neg (fun z => ?_)).trans ((if_neg (by decide)).trans ((if_neg (by decide)).trans ?_))))
  · have e1 := congrArg List.length fm
    have e2 := congrArg (fun l => (List.eraseDups l).length) fm
    have z' := z
    revert z'
    show ¬ ((([Expr.Name x px, Expr.Name y py].filterMap fun
        | .Name id pos => if X.env.kindOf id == some .local && pos.line == px.line then some id else none
        | _ => none).length != 2 || ([Expr.Name x px, Expr.Name y py].filterMap fun
        | .Name id pos => if X.env.kindOf id == some .local && pos.line == px.line then some id else none
        | _ => none).eraseDups.length != ([Expr.Name x px, Expr.Name y py].filterMap fun
        | .Name id pos => if X.env.kindOf id == some .local && pos.line == px.line then some id else none
        | _ => none).length) = true)
    rw [fm, ed]
    exact (by decide : ¬ ((2 != 2 || 2 != 2) = true))
  · exact congrArg (fun l => (pure (some l) : Sem (Option (List Str)))) fm
def par2F (i j : Nat) (f g : EF) (env : Env') (st : BSt) : Option (Out × Env' × BSt) := (f env st).bind fun p => (g env p.2).map fun q => (.nx, (env.set i (some p.1)).set j (some q.1), q.2)
structure Held (K : PySem.W.Frag) (β : Option Addr) (H0 : Hp) (O : Addr → Prop) (σ : L2.St) (env : Env') (H : Hp) (v : V) (x : R) : Prop where
  sl : SlAt K β O H v x
  fr : ∀ d p, x = .ow d → v = .ref p → H0 p = none
  ne : ∀ d p, x = .ow d → v = .ref p → ∀ (j : Nat) d', env[j]? = some (some (.ow d')) → σ[j]? ≠ some (some (.ref p))
section
variable {K : PySem.W.Frag} {β : Option Addr} {Oo O O' : Addr → Prop} {H0 H H' : Hp} {σ : L2.St} {env : Env'} {st st' : BSt} {v : V} {x : R}
/-- a result is held: what is fresh is owned from now on, by no slot yet -/
theorem Rel.grab (r : Rel K β Oo H0 O σ H env st) (sb : SB β H H') (bg : BagAt β H' st') (h : ResAt K β O H H' v x) :
    ∃ O', Rel K β Oo H0 O' σ H' env st' ∧ Same (Fz O H) (Fz O' H') ∧ (∀ a, O a → O' a) ∧ Held K β H0 O' σ env H' v x ∧ ∀ d p, x = .ow d → v = .ref p → ¬ O p := by
  cases x with
  | fz d => exact ⟨O, r.step sb bg, r.fzm sb, fun _ z => z, ⟨h, (fun _ _ z => by cases z), (fun _ _ z => by cases z)⟩, fun _ _ z => by cases z⟩
  | bag => exact ⟨O, r.step sb bg, r.fzm sb, fun _ z => z, ⟨h, (fun _ _ z => by cases z), (fun _ _ z => by cases z)⟩, fun _ _ z => by cases z⟩
  | scr ns => exact ⟨O, r.step sb bg, r.fzm sb, fun _ z => z, ⟨h, (fun _ _ z => by cases z), (fun _ _ z => by cases z)⟩, fun _ _ z => by cases z⟩
  | ow d =>
    obtain ⟨p, rfl, h1, h2, h3⟩ := h
    have w := r.putOw σ.length sb bg h1 h2 h3
    have e1 : σ.set σ.length (some (.ref p)) = σ := List.set_eq_of_length_le (Nat.le_refl _)
    have e2 : env.set σ.length (some (.ow d)) = env := List.set_eq_of_length_le (by rw [r.len]; exact Nat.le_refl _)
    rw [e1, e2] at w
    have nO := r.notO h1
    refine ⟨orO O p, w, r.putOw_same sb h1, fun _ z => .inl z, ⟨⟨p, rfl, .inr rfl, h2, h3⟩, fun d' p' _ e => ?_, fun d' p' _ e j d2 ej z => ?_⟩, fun d' p' _ e => ?_⟩
    · cases e
      cases q : H0 p with
      | none => rfl
      | some o => rw [r.sb p o h2 q] at h1; cases h1
    · cases e
      obtain ⟨u, g1, b, rfl, g2, _⟩ := r.sl j _ ej
      rw [g1] at z; cases z
      exact nO g2
    · cases e; exact nO
theorem Held.later (h : Held K β H0 O σ env H v x) (e : Same (Fz O H) (Fz O' H')) (sb : SB β H H') (hO : ∀ a, O a → O' a) : Held K β H0 O' σ env H' v x :=
  ⟨h.sl.mono e sb fun a d _ _ z => hO a z, h.fr, h.ne⟩
theorem Rel.putH (r : Rel K β Oo H0 O σ H env st) (i : Nat) (h : Held K β H0 O σ env H v x) : Rel K β Oo H0 O (σ.set i (some v)) H (env.set i (some x)) st where
  sl := fun j y e => by
    rcases get_set e with ⟨rfl, hl, e⟩ | ⟨hj, e⟩
    · cases e; exact ⟨v, List.getElem?_set_self (by rw [← r.len]; exact hl), h.sl⟩
    · rw [set_ne hj]; exact r.sl j y e
  ne := fun j k d e a hjk h1 h2 h3 => by
    rcases get_set h1 with ⟨ej, hl, z⟩ | ⟨hj, g1⟩
    · rcases get_set h2 with ⟨ek, _, z2⟩ | ⟨hk, g2⟩
      · exact absurd (ej.trans ek.symm) hjk
      · rw [set_ne hk]
        rw [ej, List.getElem?_set_self (by rw [← r.len]; exact hl)] at h3
        cases h3
        exact h.ne d a (Option.some.inj z).symm rfl k e g2
    · rw [set_ne hj] at h3
      rcases get_set h2 with ⟨ek, hl, z2⟩ | ⟨hk, g2⟩
      · rw [ek, List.getElem?_set_self (by rw [← r.len]; exact hl)]
        intro z
        cases z
        exact h.ne e a (Option.some.inj z2).symm rfl j d g1 h3
      · rw [set_ne hk]
        exact r.ne j k d e a hjk g1 g2 h3
  fr := fun j d' a h1 h2 => by
    rcases get_set h1 with ⟨rfl, hl, z⟩ | ⟨hj, h1⟩
    · rw [List.getElem?_set_self (by rw [← r.len]; exact hl)] at h2
      cases h2; exact h.fr d' a (Option.some.inj z).symm rfl
    · rw [set_ne hj] at h2
      exact r.fr j d' a h1 h2
  len := by rw [List.length_set, List.length_set]; exact r.len
  sub := r.sub
  dom := r.dom
  dom0 := r.dom0
  sb := r.sb
  bag := r.bag
  bO := r.bO
/-- held beside another one that was stored -/
theorem Held.beside (r : Rel K β Oo H0 O σ H env st) (h : Held K β H0 O' σ env H' v x) {v1 : V} {x1 : R} (i : Nat) (h1 : Held K β H0 O σ env H v1 x1) (hn : ∀ d p, x = .ow d → v = .ref p → ¬ O p) : Held K β H0 O' (σ.set i (some v1)) (env.set i (some x1)) H' v x where
  sl := h.sl
  fr := h.fr
  ne := fun d p hx hv j d' ej z => by
    rcases get_set ej with ⟨rfl, hl, e⟩ | ⟨hj, ej⟩
    · rw [List.getElem?_set_self (by rw [← r.len]; exact hl)] at z
      cases z
      cases e
      obtain ⟨a, e1, e2, _⟩ := h1.sl
      cases e1
      exact hn d p hx hv e2
    · rw [set_ne hj] at z
      exact h.ne d p hx hv j d' ej z
end
theorem ss_par2 (C : CxS F S X) {x y : Str} {i j : Nat} {px py pt pt2 pos : Pos} {k k2 : Nat} {a b : Expr} {f g : EF} (h : swap2 S x y px py a b = true) (hx : tgtSlot S x = some i) (hy : tgtSlot S y = some j) (hij : i ≠ j) (ha : SoundE X a f) (hb : SoundE X b g) :
    SoundS X (.Assign [.Tuple [.Name x px, .Name y py] k pt] (.Tuple [a, b] k2 pt2) pos) (par2F i j f g) := by
  intro β Oo H0 O σ H env env' st st' o D rel hf q
  obtain ⟨⟨r1, s1⟩, e1, hf⟩ := bind1 hf
  obtain ⟨⟨r2, s2⟩, e2, hf⟩ := map1 hf
  cases hf
  obtain ⟨sw, lx, ly, _, na, nb⟩ := swap2_ok C (k := k) (pt := pt) (k2 := k2) (pt2 := pt2) h
  obtain ⟨h1, h2, _, _⟩ := tgtSlot_ok C hx
  obtain ⟨_, h3, _, _⟩ := tgtSlot_ok C hy
  have pa : PA X [a, b] _ := pa_cons (we_pe X a) (pa_cons (we_pe X b) pa_nil (noStar_ok nb [] X.env)) (noStar_ok na [b] X.env)
  refine (ps_par C.calm h1 h2 h3 hij lx ly pa sw (sole_ok _ _ _ _ _ _)).ws (ha rel e1 fun v H1 sb1 bg1 rv => ?_)
  obtain ⟨O1, rel1, sm1, hO1, hd1, _⟩ := rel.grab sb1 bg1 rv
  refine hb rel1 e2 fun w H2 sb2 bg2 rw' => ⟨v, w, rfl, ?_⟩
  obtain ⟨O2, rel2, sm2, hO2, hd2, hn2⟩ := rel1.grab sb2 bg2 rw'
  have r3 := rel2.putH i (hd1.later sm2 sb2 hO2)
  exact q _ _ _ (r3.putH j (hd2.beside rel1 i hd1 hn2)) (sm1.trans sm2)
def swap3 (S : Sx) (x y z : Str) (px py pz : Pos) (a b c : Expr) : Bool :=
  decide (S.sc.names.lookup x = some .local) && decide (S.sc.names.lookup y = some .local) && decide (S.sc.names.lookup z = some .local) && (py.line == px.line) && (pz.line == px.line) && decide (x ≠ y) && decide (x ≠ z) && decide (y ≠ z) && noStar a && noStar b && noStar c && !([a, b, c].all (foldedForSure 8)) && !([a, b, c].all (constantsAlone 8))
theorem swap3_ok (C : CxS F S X) {x y z : Str} {px py pz pt pt2 : Pos} {k k2 : Nat} {a b c : Expr} (h : swap3 S x y z px py pz a b c = true) :
    swappedStores [.Tuple [.Name x px, .Name y py, .Name z pz] k pt] (.Tuple [a, b, c] k2 pt2) X.env = pure (some [x, y, z]) ∧ X.env.scope.names.lookup x = some .local ∧ X.env.scope.names.lookup y = some .local ∧ X.env.scope.names.lookup z = some .local ∧ noStar a = true ∧ noStar b = true ∧ noStar c = true := by
  unfold swap3 at h
  simp only [Bool.and_eq_true, decide_eq_true_eq, Bool.not_eq_true'] at h
  obtain ⟨⟨⟨⟨⟨⟨⟨⟨⟨⟨⟨⟨h1, h2⟩, h3⟩, l1⟩, l2⟩, n1⟩, n2⟩, n3⟩, a1⟩, a2⟩, a3⟩, h7⟩, h8⟩ := h
  rw [← C.sc] at h1 h2 h3
  refine ⟨?_, h1, h2, h3, a1, a2, a3⟩
  have k1 : X.env.kindOf x = some .local := h1
  have k2' : X.env.kindOf y = some .local := h2
  have k3 : X.env.kindOf z = some .local := h3
  have bk := blockKind_ok C.kind
  have m1 := noStar_any a a1
  have m2 := noStar_any b a2
  have m3 := noStar_any c a3
  have l1' : py.line = px.line := eq_of_beq l1
  have l2' : pz.line = px.line := eq_of_beq l2
  have fm : ([Expr.Name x px, Expr.Name y py, Expr.Name z pz].filterMap fun
    | .Name id pos => if X.env.kindOf id == some .local && pos.line == px.line then some id else none
    | _ => none) = [x, y, z] := by
    rw [List.filterMap_cons, List.filterMap_cons, List.filterMap_cons, List.filterMap_nil]
    simp [k1, k2', k3, l1', l2']
  have ed : ([x, y, z] : List Str).eraseDups.length = 3 := by
    simp [List.eraseDups_cons, Ne.symm n1, Ne.symm n2, Ne.symm n3]
  have an : ([a, b, c].any fun | .Starred .. => true | _ => false) = false := by
    simp only [List.any_cons, List.any_nil, Bool.or_false]
    exact Bool.or_eq_false_iff.mpr ⟨m1, Bool.or_eq_false_iff.mpr ⟨m2, m3⟩⟩
  unfold swappedStores
  simp only [List.length_cons, List.length_nil, bk, h7, h8, List.head?_cons, Option.map_some, Option.getD_some, Expr.pos]
  refine (if_neg (by decide)).trans ((if_neg (fun z => Bool.noConfusion (an.symm.trans z))).trans ((if_neg (fun w => ?_)).trans ((if_neg (by decide)).trans ((if_neg (by decide)).trans ?_))))
  · have z' := w
    revert z'
    show ¬ ((([Expr.Name x px, Expr.Name y py, Expr.Name z pz].filterMap fun
        | .Name id pos => if X.env.kindOf id == some .local && pos.line == px.line then some id else none
        | _ => none).length != 3 || ([Expr.Name x px, Expr.Name y py, Expr.Name z pz].filterMap fun
        | .Name id pos => if X.env.kindOf id == some .local && pos.line == px.line then some id else none
        | _ => none).eraseDups.length != ([Expr.Name x px, Expr.Name y py, Expr.Name z pz].filterMap fun
        | .Name id pos => if X.env.kindOf id == some .local && pos.line == px.line then some id else none
        | _ => none).length) = true)
    rw [fm, ed]
    exact (by decide : ¬ ((3 != 3 || 3 != 3) = true))
  · exact congrArg (fun l => (pure (some l) : Sem (Option (List Str)))) fm
def par3F (i j l : Nat) (f g e : EF) (env : Env') (st : BSt) : Option (Out × Env' × BSt) := (f env st).bind fun p => (g env p.2).bind fun q => (e env q.2).map fun w => (.nx, ((env.set i (some p.1)).set j (some q.1)).set l (some w.1), w.2)
theorem ss_par3 (C : CxS F S X) {x y z : Str} {i j l : Nat} {px py pz pt pt2 pos : Pos} {k k2 : Nat} {a b c : Expr} {f g e : EF} (h : swap3 S x y z px py pz a b c = true) (hx : tgtSlot S x = some i) (hy : tgtSlot S y = some j) (hz : tgtSlot S z = some l)
    (hij : i ≠ j) (hil : i ≠ l) (hjl : j ≠ l) (ha : SoundE X a f) (hb : SoundE X b g) (hc : SoundE X c e) :
    SoundS X (.Assign [.Tuple [.Name x px, .Name y py, .Name z pz] k pt] (.Tuple [a, b, c] k2 pt2) pos) (par3F i j l f g e) := by
  intro β Oo H0 O σ H env env' st st' o D rel hf q
  obtain ⟨⟨r1, s1⟩, e1, hf⟩ := bind1 hf
  obtain ⟨⟨r2, s2⟩, e2, hf⟩ := bind1 hf
  obtain ⟨⟨r3, s3⟩, e3, hf⟩ := map1 hf
  cases hf
  obtain ⟨sw, lx, ly, lz, na, nb, nc⟩ := swap3_ok C (k := k) (pt := pt) (k2 := k2) (pt2 := pt2) h
  obtain ⟨h1, h2, _, _⟩ := tgtSlot_ok C hx
  obtain ⟨_, h3, _, _⟩ := tgtSlot_ok C hy
  obtain ⟨_, h4, _, _⟩ := tgtSlot_ok C hz
  have pa : PA X [a, b, c] _ := pa_cons (we_pe X a) (pa_cons (we_pe X b) (pa_cons (we_pe X c) pa_nil (noStar_ok nc [] X.env)) (noStar_ok nb [c] X.env)) (noStar_ok na [b, c] X.env)
  refine (ps_par3 C.calm h1 h2 h3 h4 hij hil hjl lx ly lz pa sw (sole_ok _ _ _ _ _ _)).ws (ha rel e1 fun v H1 sb1 bg1 rv => ?_)
  obtain ⟨O1, rel1, sm1, hO1, hd1, _⟩ := rel.grab sb1 bg1 rv
  refine hb rel1 e2 fun w H2 sb2 bg2 rw' => ?_
  obtain ⟨O2, rel2, sm2, hO2, hd2, hn2⟩ := rel1.grab sb2 bg2 rw'
  refine hc rel2 e3 fun u H3 sb3 bg3 ru => ⟨v, w, u, rfl, ?_⟩
  obtain ⟨O3, rel3, sm3, hO3, hd3, hn3⟩ := rel2.grab sb3 bg3 ru
  have d1' := hd1.later sm2 sb2 hO2
  have q1 := rel3.putH i (d1'.later sm3 sb3 hO3)
  have q2 := q1.putH j ((hd2.later sm3 sb3 hO3).beside rel1 i hd1 hn2)
  have b3 := hd3.beside rel2 i d1' hn3
  have b3' := b3.beside (rel2.putH i d1') j (hd2.beside rel1 i hd1 hn2) hn3
  exact q _ _ _ (q2.putH l b3') (sm1.trans (sm2.trans sm3))
end
end Iv

set_option maxHeartbeats 4000000
namespace Iv
open PySem PySem.Spec PyProof.Rows L2
section
variable {F : FT} {S : Sx} {X : Cx}
/-- what a slot owns changes -/
theorem Rel.mut {K : PySem.W.Frag} {β : Option Addr} {Oo O : Addr → Prop} {H0 H : Hp} {σ : L2.St} {env : Env'} {st : BSt} (r : Rel K β Oo H0 O σ H env st) {i : Nat} {d d' : D} {a : Addr} {ob o' : HO} (hi : env[i]? = some (some (.ow d))) (hv : σ[i]? = some (some (.ref a)))
    (hob : H a = some ob) (hnf : ∀ o u, ob ≠ .frz o u) (ho : OwAt K O (upd H a o') a d') : Rel K β Oo H0 O σ (upd H a o') (env.set i (some (.ow d'))) st ∧ Same (Fz O H) (Fz O (upd H a o')) := by
  obtain ⟨v, hv', b, rfl, hO, hn, _⟩ := r.sl i _ hi
  rw [hv] at hv'; cases hv'
  have a0 := r.fr i d a hi hv
  have fm : Same (Fz O H) (Fz O (upd H a o')) := fun b o e => by
    obtain ⟨n, e⟩ := fz_some e
    rw [fz_out n, upd_ne (fun z => n (by rw [z]; exact hO))]; exact e
  refine ⟨?_, fm⟩
  exact {
    sl := fun j y ej => by
      rcases get_set ej with ⟨rfl, _, z⟩ | ⟨hj, ej⟩
      · cases z; exact ⟨_, hv, a, rfl, hO, hn, ho⟩
      · obtain ⟨w, h1, h2⟩ := r.sl j y ej
        refine ⟨w, h1, ?_⟩
        cases y with
        | fz dy => exact Rp.mono fm h2
        | ow dy =>
          obtain ⟨b, rfl, g1, g2, g3⟩ := h2
          have ne : b ≠ a := fun z => by subst z; exact r.ne i j d dy b (fun z => hj z.symm) hi ej hv h1
          exact ⟨b, rfl, g1, g2, g3.mono fm fun o q => by rw [upd_ne ne]; exact q⟩
        | bag => exact h2
        | scr ns =>
          obtain ⟨b, rfl, g2⟩ := h2
          refine ⟨b, rfl, ?_⟩
          rcases g2 with ⟨g1, o, g2⟩ | g2
          · exact .inl ⟨g1, o, by rw [upd_ne (fun z => by rw [z, hob] at g2; exact hnf _ _ (Option.some.inj g2))]; exact g2⟩
          · exact .inr g2
    ne := fun j k d1 e1 b hjk h1 h2 h3 => by
      have f : ∀ {m : Nat} {dm : D}, (env.set i (some (.ow d')))[m]? = some (some (.ow dm)) → ∃ dm', env[m]? = some (some (.ow dm')) := fun {m dm} q => by
        rcases get_set q with ⟨rfl, _, z⟩ | ⟨hm, q⟩
        · exact ⟨d, hi⟩
        · exact ⟨dm, q⟩
      obtain ⟨_, g1⟩ := f h1
      obtain ⟨_, g2⟩ := f h2
      exact r.ne j k _ _ b hjk g1 g2 h3
    fr := fun j dj b h1 h2 => by
      rcases get_set h1 with ⟨rfl, _, z⟩ | ⟨hj, h1⟩
      · exact r.fr j d b hi h2
      · exact r.fr j dj b h1 h2
    len := by rw [List.length_set]; exact r.len
    sub := r.sub
    dom := fun b hb => by
      by_cases z : b = a
      · rw [z, upd_same]; simp
      · rw [upd_ne z]; exact r.dom b hb
    dom0 := r.dom0
    sb := fun b o nb e => by
      rw [upd_ne (fun z => by rw [z, a0] at e; cases e)]
      exact r.sb b o nb e
    bag := r.bag.mono fun b o hb e => by rw [upd_ne (fun z => hn (by rw [hb, z]))]; exact e
    bO := r.bO }
/-- the bag changes -/
theorem Rel.setBag {K : PySem.W.Frag} {β : Option Addr} {Oo O : Addr → Prop} {H0 H : Hp} {σ : L2.St} {env : Env'} {st : BSt} {g s : Int} (r : Rel K β Oo H0 O σ H env st) {b : Addr} (hβ : β = some b) :
    Rel K β Oo H0 O σ (upd H b (.lst [.int g, .int s])) env (some (g, s)) ∧ Same (Fz O H) (Fz O (upd H b (.lst [.int g, .int s]))) := by
  have sb : SB β H (upd H b (.lst [.int g, .int s])) := fun a o n e => by
    rw [upd_ne (fun z => n (by rw [hβ, z]))]; exact e
  exact ⟨r.step sb ⟨b, hβ, upd_same⟩, r.fzm sb⟩
/-! ### x.append(e) -/
def appF (S : Sx) (x : Str) (f : EF) (env : Env') (st : BSt) : Option (Out × Env' × BSt) := match slotOf S x with
  | some i => (f env st).bind fun p => p.1.d?.bind fun d => (match env[i]? with
    | some (some (.ow (.list ds))) => if decide (ds.length < sizeLine) then some (.nx, env.set i (some (.ow (.list (ds ++ [d])))), p.2) else none
    | _ => none)
  | none => none
theorem few_ok {e : Expr} (h : noStar e = true) (env : Env) (cpos : Pos) : ((backTo cpos (starEach [e] env)).all (fun x => !x.1) && (backToKw cpos (keywordEach [] env)).all (fun x => x.1.isSome)
      && decide (([e] : List Expr).length + ([] : List Keyword).length + (if ([] : List Keyword).isEmpty then 0 else 1) < 30)) = true := by
  rw [noStar_ok h]; rfl
theorem ss_app (C : CxS F S X) {x : Str} {e : Expr} {f : EF} {p apos cpos pos : Pos} (hl : (apos.endLine == cpos.line) = true) (hn : noStar e = true) (he : SoundE X e f) : SoundS X (.Expr (.Call (.Attribute (.Name x p) "append" apos) [e] [] cpos) pos) (appF S x f) := by
  intro β Oo H0 O σ H env env' st st' o D rel h q
  unfold appF at h
  cases es : slotOf S x with
  | none => rw [es] at h; cases h
  | some i =>
    rw [es] at h
    obtain ⟨h1, h2, h3, h4⟩ := slotOf_ok C es
    obtain ⟨⟨r, s1⟩, e1, h⟩ := bind1 h
    obtain ⟨d, e2, h⟩ := bind1 h
    dsimp only at h
    split at h
    · rename_i ds e3
      obtain ⟨c, h⟩ := ite_some h
      cases h
      obtain ⟨v, hv, a, rfl, hO, hn', xs, ha, rxs⟩ := rel.sl i _ e3
      refine (ps_expr (pe_bm PySem.F.plainAttrs_list PySem.F.slot_list_append PySem.F.type_list_append mt_append (pe_var h1 h2 h3 h4) (pa_cons (we_pe X e) pa_nil (noStar_ok hn [] X.env)) rfl (few_ok hn X.env cpos) hl (noStar_ok hn [] X.env) rfl) rfl).ws
        ⟨_, hv, .inl ⟨rfl, _, SqL.of ha⟩, he rel e1 fun w H1 sb1 bg1 rw' => ?_⟩
      have rel1 := rel.step sb1 bg1
      have ha1 := sb1 a _ hn' ha
      have rx1 := rxs.mono (rel.fzm sb1)
      refine ⟨a, xs, w, rfl, rfl, ha1, by rw [rxs.length]; exact of_decide_eq_true c, ?_⟩
      obtain ⟨r2, sm⟩ := rel1.mut (d' := .list (ds ++ [d])) (o' := .lst (xs ++ [w])) e3 hv ha1 (fun _ _ z => by cases z) ⟨_, upd_same, (rx1.append (.one (rw'.rp rel e2))).mono fun b o q => by
        obtain ⟨n, q⟩ := fz_some q
        rw [fz_out n, upd_ne (fun z => n (by rw [z]; exact hO))]; exact q⟩
      exact q _ _ _ r2 ((rel.fzm sb1).trans sm)
    · cases h
/-! ### x[i] = e: a list's, a dict's, the bag's -/
def keyOf : D → Option Key
  | .int i => some (.inl i)
  | .str x => some (.inr x)
  | _ => none
theorem keyOf_ok {d : D} {k : Key} (h : keyOf d = some k) : d = kD k := by
  cases d <;> cases h <;> rfl
def putD (kds : List (D × D)) (k : Key) (v : D) : List (D × D) :=
  if (kds.any fun kv => decide (keyOf kv.1 = some k)) = true then kds.map (fun kv => if keyOf kv.1 = some k then (kv.1, v) else kv) else kds ++ [(kD k, v)]
def setN (S : Sx) (x : Str) (f : EF) (g : VF) (env : Env') (st : BSt) : Option (Out × Env' × BSt) := match slotOf S x with
  | some i => (f env st).bind fun p => p.1.d?.bind fun d => (g env p.2).bind fun q => (match env[i]? with
    | some (some (.ow (.list ds))) => (match q.1 with
      | .int k => (ixN ds.length k).map fun j => (.nx, env.set i (some (.ow (.list (ds.set j d)))), q.2)
      | _ => none)
    | some (some (.ow (.dict kds))) => (keyOf q.1).bind fun k => if decide (kds.length < sizeLine) then some (.nx, env.set i (some (.ow (.dict (putD kds k d)))), q.2) else none
    | some (some .bag) => (match q.2, q.1, d with
      | some b, .int 0, .int n => some (.nx, env, some (n, b.2))
      | some b, .int 1, .int n => some (.nx, env, some (b.1, n))
      | _, _, _ => none)
    | _ => none)
  | none => none
theorem keyOf_kD (k : Key) : keyOf (kD k) = some k := by cases k <;> rfl
theorem any_keys {k : Key} : ∀ {kds : List (D × D)} {kvs : List (Key × V)}, kds.map (·.1) = kvs.map (fun p => kD p.1) → (kds.any fun kv => decide (keyOf kv.1 = some k)) = (kvs.any fun kv => decide (kv.1 = k))
  | [], [], _ => rfl
  | [], _ :: _, h => by simp at h
  | _ :: _, [], h => by simp at h
  | d :: kds, v :: kvs, h => by
    simp only [List.map_cons, List.cons.injEq] at h
    simp only [List.any_cons]
    rw [any_keys h.2, h.1, keyOf_kD]
    congr 1
    simp
theorem map_keys {k : Key} {v : D} {w : V} : ∀ {kds : List (D × D)} {kvs : List (Key × V)}, kds.map (·.1) = kvs.map (fun p => kD p.1) →
    (kds.map (fun kv => if keyOf kv.1 = some k then (kv.1, v) else kv)).map (·.1) = (kvs.map (fun kv => if kv.1 = k then (kv.1, w) else kv)).map (fun p => kD p.1)
  | [], [], _ => rfl
  | [], _ :: _, h => by simp at h
  | _ :: _, [], h => by simp at h
  | d :: kds, u :: kvs, h => by
    simp only [List.map_cons, List.cons.injEq] at h
    simp only [List.map_cons]
    rw [map_keys (v := v) (w := w) h.2, h.1, keyOf_kD]
    congr 1
    by_cases e : u.1 = k
    · simp [e, h.1]
    · simp [e, h.1]
theorem map_vals {K : PySem.W.Frag} {hp : Hp} {k : Key} {v : D} {w : V} (hv : Rp K hp w v) : ∀ {kds : List (D × D)} {kvs : List (Key × V)}, kds.map (·.1) = kvs.map (fun p => kD p.1) → RpAll K hp (kvs.map (·.2)) (kds.map (·.2)) →
    RpAll K hp ((kvs.map (fun kv => if kv.1 = k then (kv.1, w) else kv)).map (·.2)) ((kds.map (fun kv => if keyOf kv.1 = some k then (kv.1, v) else kv)).map (·.2))
  | [], [], _, _ => .nil
  | [], _ :: _, h, _ => by simp at h
  | _ :: _, [], h, _ => by simp at h
  | d :: kds, u :: kvs, h, r => by
    simp only [List.map_cons, List.cons.injEq] at h
    simp only [List.map_cons] at r ⊢
    cases r with
    | cons r1 r2 =>
      refine .cons ?_ (map_vals hv h.2 r2)
      rw [h.1, keyOf_kD]
      by_cases e : u.1 = k
      · simp [e]; exact hv
      · simp [e]; exact r1
theorem putD_ok {K : PySem.W.Frag} {hp : Hp} {k : Key} {v : D} {w : V} {kds : List (D × D)} {kvs : List (Key × V)} (hv : Rp K hp w v) (h : kds.map (·.1) = kvs.map (fun p => kD p.1)) (r : RpAll K hp (kvs.map (·.2)) (kds.map (·.2))) :
    (putD kds k v).map (·.1) = (putK kvs k w).map (fun p => kD p.1) ∧ RpAll K hp ((putK kvs k w).map (·.2)) ((putD kds k v).map (·.2)) := by
  unfold putD putK
  rw [any_keys h]
  split
  · exact ⟨map_keys h, map_vals hv h r⟩
  · simp only [List.map_append, List.map_cons, List.map_nil]
    exact ⟨by rw [h], r.append (.one hv)⟩
theorem assignSub_ok (o i : Expr) (pos : Pos) (env : Env) (hi : plainIx i = true) : ∀ v, assign (.Subscript o i pos) env v = (do
      let ov ← holding [v] (eval o env)
      let iv ← holding [v, ov] (eval i env)
      standAt pos
      holding [v, ov, iv] (setItem ov iv v)
      release [v, ov, iv] []) := by
  intro v
  cases i <;> first | rfl | cases hi
theorem ss_setN (C : CxS F S X) {x : Str} {i e : Expr} {f : EF} {g : VF} {p ps pos : Pos} (hp : plainIx i = true) (hc : noComp e = true) (he : SoundE X e f) (hi : SoundV X i g) : SoundS X (.Assign [.Subscript (.Name x p) i ps] e pos) (setN S x f g) := by
  intro β Oo H0 O σ H env env' st st' o D rel h q
  unfold setN at h
  cases es : slotOf S x with
  | none => rw [es] at h; cases h
  | some n =>
    rw [es] at h
    obtain ⟨h1, h2, h3, h4⟩ := slotOf_ok C es
    obtain ⟨⟨r, s1⟩, e1, h⟩ := bind1 h
    obtain ⟨d, e2, h⟩ := bind1 h
    obtain ⟨⟨di, s2⟩, e3, h⟩ := bind1 h
    have hsw : swapsWith e (some (.Subscript (.Name x p) i ps)) pos.line X.env = pure false := noComp_ok hc _ _ _
    have hss : swappedStores [.Subscript (.Name x p) i ps] e X.env = pure none := by cases e <;> rfl
    dsimp only at h
    split at h
    · rename_i ds e4
      split at h
      · rename_i k
        obtain ⟨j, e5, h⟩ := map1 h
        cases h
        obtain ⟨v, hv, a, rfl, hO, hn, xs, ha, rxs⟩ := rel.sl n _ e4
        refine (ps_asg (we_pe X e) (pg_sub (pe_var h1 h2 h3 h4) (we_pe X i) set_list (assignSub_ok _ _ _ _ hp)) hsw hss rfl).ws (he rel e1 fun w H1 sb1 bg1 rw' => ⟨_, hv, ?_⟩)
        have rel1 := rel.step sb1 bg1
        refine hi rel1 e3 fun y H2 sb2 bg2 ty => ?_
        have rel2 := rel1.step sb2 bg2
        cases ty
        have ha2 := sb2 a _ hn (sb1 a _ hn ha)
        have rx2 := (rxs.mono (rel.fzm sb1)).mono (rel1.fzm sb2)
        have rd := (rw'.rp rel e2).mono (rel1.fzm sb2)
        refine ⟨a, xs, k, j, rfl, rfl, ha2, by rw [rxs.length]; exact e5, ?_⟩
        obtain ⟨r2, sm⟩ := rel2.mut (d' := .list (ds.set j d)) (o' := .lst (xs.set j w)) e4 hv ha2 (fun _ _ z => by cases z) ⟨_, upd_same, (rx2.set j rd).mono fun b o q => by
          obtain ⟨n, q⟩ := fz_some q
          rw [fz_out n, upd_ne (fun z => n (by rw [z]; exact hO))]; exact q⟩
        exact q _ _ _ r2 ((rel.fzm sb1).trans ((rel1.fzm sb2).trans sm))
      · cases h
    · rename_i kds e4
      obtain ⟨k, e5, h⟩ := bind1 h
      obtain ⟨c, h⟩ := ite_some h
      cases h
      obtain ⟨v, hv, a, rfl, hO, hn, kvs, ha, hks, rxs⟩ := rel.sl n _ e4
      refine (ps_dput (by have := C.hu; omega) (pe_var h1 h2 h3 h4) (we_pe X i) (we_pe X e) hsw).ws (he rel e1 fun w H1 sb1 bg1 rw' => ⟨_, hv, ?_⟩)
      have rel1 := rel.step sb1 bg1
      refine hi rel1 e3 fun y H2 sb2 bg2 ty => ?_
      have rel2 := rel1.step sb2 bg2
      have ha2 := sb2 a _ hn (sb1 a _ hn ha)
      have rx2 := (rxs.mono (rel.fzm sb1)).mono (rel1.fzm sb2)
      have rd := (rw'.rp rel e2).mono (rel1.fzm sb2)
      have ey : y = kV k := by
        rw [keyOf_ok e5] at ty
        cases k with
        | inl i => cases ty; rfl
        | inr i => cases ty; rfl
      have lk : kvs.length = kds.length := by simpa using congrArg List.length hks.symm
      rw [ey]
      refine ⟨a, _, rfl, DPut.k ha2 (by rw [lk]; exact of_decide_eq_true c), ?_⟩
      obtain ⟨p1, p2⟩ := putD_ok (k := k) rd hks rx2
      obtain ⟨r2, sm⟩ := rel2.mut (d' := .dict (putD kds k d)) (o' := .dK (putK kvs k w)) e4 hv ha2 (fun _ _ z => by cases z) ⟨_, upd_same, p1, p2.mono fun b o q => by
        obtain ⟨n, q⟩ := fz_some q
        rw [fz_out n, upd_ne (fun z => n (by rw [z]; exact hO))]; exact q⟩
      exact q _ _ _ r2 ((rel.fzm sb1).trans ((rel1.fzm sb2).trans sm))
    · rename_i e4
      obtain ⟨v, hv, b, hβ, rfl⟩ := rel.sl n _ e4
      have go : ∀ (m : Int) (kk : Int) (j : Nat) (bb : Int × Int) (g1 g2 : Int), d = .int m → di = .int kk → ixN 2 kk = some j → s2 = some bb → (∀ w : V, w = .int m → ([V.int bb.1, V.int bb.2].set j w) = [V.int g1, V.int g2]) → st' = some (g1, g2) → o = .nx → env' = env → Ws X (.Assign [.Subscript (.Name x p) i ps] e pos) D σ H := by
        rintro m kk j bb g1 g2 rfl rfl hj hbb hset rfl rfl rfl
        refine (ps_asg (we_pe X e) (pg_sub (pe_var h1 h2 h3 h4) (we_pe X i) set_list (assignSub_ok _ _ _ _ hp)) hsw hss rfl).ws (he rel e1 fun w H1 sb1 bg1 rw' => ⟨_, hv, ?_⟩)
        have rel1 := rel.step sb1 bg1
        refine hi rel1 e3 fun y H2 sb2 bg2 ty => ?_
        have rel2 := rel1.step sb2 bg2
        cases ty
        have rd := rw'.rp rel e2
        cases rd
        obtain ⟨u1, u2, eb, hb2⟩ := bg2.get hβ
        rw [hbb] at eb
        cases eb
        refine ⟨b, _, kk, j, rfl, rfl, hb2, hj, ?_⟩
        rw [hset _ rfl]
        obtain ⟨r3, sm⟩ := rel2.setBag (g := g1) (s := g2) hβ
        exact q _ _ _ r3 ((rel.fzm sb1).trans ((rel1.fzm sb2).trans sm))
      split at h
      · cases h
        exact go _ 0 0 _ _ _ rfl rfl rfl rfl (fun w hw => by rw [hw]; rfl) rfl rfl rfl
      · cases h
        exact go _ 1 1 _ _ _ rfl rfl rfl rfl (fun w hw => by rw [hw]; rfl) rfl rfl rfl
      · cases h
    · cases h
end
end Iv

set_option maxHeartbeats 4000000
namespace Iv
open PySem PySem.Spec PyProof.Rows L2
section
variable {F : FT} {S : Sx} {X : Cx}
/-! ### x[i], x[j] = e -/
def swF (S : Sx) (x : Str) (f : EF) (g1 g2 : VF) (env : Env') (st : BSt) : Option (Out × Env' × BSt) := match slotOf S x with
  | some n => (f env st).bind fun p => (match p.1.d? with
    | some (.tuple [d1, d2]) => (g1 env p.2).bind fun q1 => (match env[n]? with
      | some (some (.ow (.list ds))) => (match q1.1 with
        | .int k1 => (ixN ds.length k1).bind fun j1 => (g2 (env.set n (some (.ow (.list (ds.set j1 d1))))) q1.2).bind fun q2 => (match q2.1 with
          | .int k2 => (ixN ds.length k2).map fun j2 => (.nx, env.set n (some (.ow (.list ((ds.set j1 d1).set j2 d2)))), q2.2)
          | _ => none)
        | _ => none)
      | _ => none)
    | _ => none)
  | none => none
theorem swSub_ok (x y : Expr) (i j : Expr) (k : Nat) (p1 p2 pt : Pos) (v : Expr) (env : Env) : swappedStores [.Tuple [.Subscript x i p1, .Subscript y j p2] k pt] v env = pure none := by
  cases v with
  | Tuple vs kk pp =>
    unfold swappedStores
    simp only [List.length_cons, List.length_nil]
    split
    · rfl
    · split
      · rfl
      · refine if_pos ?_
        rfl
  | _ => rfl
theorem ss_sw (C : CxS F S X) {x : Str} {i j v : Expr} {f : EF} {g1 g2 : VF} {k : Nat} {p p' ps ps' pt pos : Pos} (hi' : plainIx i = true) (hj' : plainIx j = true) (he : SoundE X v f) (hi : SoundV X i g1) (hj : SoundV X j g2) :
    SoundS X (.Assign [.Tuple [.Subscript (.Name x p) i ps, .Subscript (.Name x p') j ps'] k pt] v pos) (swF S x f g1 g2) := by
  intro β Oo H0 O σ H env env' st st' o D rel h q
  unfold swF at h
  cases es : slotOf S x with
  | none => rw [es] at h; cases h
  | some n =>
    rw [es] at h
    obtain ⟨h1, h2, h3, h4⟩ := slotOf_ok C es
    obtain ⟨⟨r, s1⟩, e1, h⟩ := bind1 h
    dsimp only at h
    split at h
    · rename_i d1 d2 e2
      obtain ⟨⟨di, s2⟩, e3, h⟩ := bind1 h
      dsimp only at h
      split at h
      · rename_i ds e4
        split at h
        · rename_i k1
          obtain ⟨j1, e5, h⟩ := bind1 h
          obtain ⟨⟨dj, s3⟩, e6, h⟩ := bind1 h
          dsimp only at h
          split at h
          · rename_i k2
            obtain ⟨j2, e7, h⟩ := map1 h
            cases h
            obtain ⟨v0, hv, a, rfl, hO, hn, xs, ha, rxs⟩ := rel.sl n _ e4
            refine (ps_asg (we_pe X v) (pg_tup C.calm (pgs_cons (pg_sub (pe_var h1 h2 h3 h4) (we_pe X i) set_list (assignSub_ok _ _ _ _ hi')) (pgs_cons (pg_sub (pe_var h1 h2 h3 h4) (we_pe X j) set_list (assignSub_ok _ _ _ _ hj')) pgs_nil rfl) rfl) rfl rfl) (sole_ok v _ _ _ _ _) (swSub_ok _ _ _ _ _ _ _ _ v X.env) rfl).ws (he rel e1 fun w H1 sb1 bg1 rw' => ?_)
            have rel1 := rel.step sb1 bg1
            obtain ⟨t, ws, rfl, ht, hws⟩ := rp_tup (rw'.rp rel e2)
            cases hws with
            | @cons w1 ws1 _ _ hw1 hws =>
              cases hws with
              | @cons w2 ws2 _ _ hw2 hws =>
                cases hws
                refine ⟨t, _, rfl, fz_tup ht, rfl, w1, [w2], rfl, _, hv, hi rel1 e3 fun y H2 sb2 bg2 ty => ?_⟩
                have rel2 := rel1.step sb2 bg2
                cases ty
                have ha2 := sb2 a _ hn (sb1 a _ hn ha)
                have rx2 := (rxs.mono (rel.fzm sb1)).mono (rel1.fzm sb2)
                have rd1 := hw1.mono (rel1.fzm sb2)
                have rd2 := hw2.mono (rel1.fzm sb2)
                refine ⟨a, xs, k1, j1, rfl, rfl, ha2, by rw [rxs.length]; exact e5, ?_⟩
                obtain ⟨r3, sm3⟩ := rel2.mut (d' := .list (ds.set j1 d1)) (o' := .lst (xs.set j1 w1)) e4 hv ha2 (fun _ _ z => by cases z) ⟨_, upd_same, (rx2.set j1 rd1).mono fun b o q => by
                  obtain ⟨n, q⟩ := fz_some q
                  rw [fz_out n, upd_ne (fun z => n (by rw [z]; exact hO))]; exact q⟩
                refine ⟨w2, [], rfl, _, hv, hj r3 e6 fun y2 H4 sb4 bg4 ty2 => ?_⟩
                have r4 := r3.step sb4 bg4
                cases ty2
                have ha4 := sb4 a _ hn (upd_same (H := H2) (a := a) (o := .lst (xs.set j1 w1)))
                have rx4 := ((rx2.set j1 rd1).mono sm3).mono (r3.fzm sb4)
                have rd4 := (rd2.mono sm3).mono (r3.fzm sb4)
                refine ⟨a, _, k2, j2, rfl, rfl, ha4, by rw [List.length_set, rxs.length]; exact e7, ?_⟩
                have hl : n < env.length := (List.getElem?_eq_some_iff.mp e4).1
                obtain ⟨r5, sm5⟩ := r4.mut (i := n) (d := .list (ds.set j1 d1)) (d' := .list ((ds.set j1 d1).set j2 d2)) (o' := .lst ((xs.set j1 w1).set j2 w2)) (List.getElem?_set_self hl) hv ha4 (fun _ _ z => by cases z) ⟨_, upd_same, (rx4.set j2 rd4).mono fun b o q => by
                  obtain ⟨n, q⟩ := fz_some q
                  rw [fz_out n, upd_ne (fun z => n (by rw [z]; exact hO))]; exact q⟩
                rw [List.set_set] at r5
                exact ⟨rfl, q _ _ _ r5 ((rel.fzm sb1).trans ((rel1.fzm sb2).trans (sm3.trans ((r3.fzm sb4).trans sm5))))⟩
          · cases h
        · cases h
      · cases h
    · cases h
/-! ### {}, {k: v} -/
def dict0 (_ : Env') (st : BSt) : Option (R × BSt) := some (.ow (.dict []), st)
theorem s_dict0 {pos : Pos} : SoundE X (.Dict [] [] pos) dict0 := by
  intro β Oo H0 O σ H env st r st' Q rel h q
  cases h
  refine pe_dnewK.we fun p hp => q _ _ (SB.laid hp) (same_bag (same_laid hp) rel.bag) ⟨p, rfl, hp, rel.neB hp, [], upd_same, rfl, .nil⟩
def dict1 (k v : VF) (env : Env') (st : BSt) : Option (R × BSt) := (k env st).bind fun p => (keyOf p.1).bind fun kk => (v env p.2).bind fun q => if flatD q.1 then some (.ow (.dict [(kD kk, q.1)]), q.2) else none
theorem s_dict1 {k v : Expr} {f g : VF} {pos : Pos} (hk : SoundV X k f) (hv : SoundV X v g) : SoundE X (.Dict [some k] [v] pos) (dict1 f g) := by
  intro β Oo H0 O σ H env st r st' Q rel h q
  obtain ⟨⟨dk, s1⟩, e1, h⟩ := bind1 h
  obtain ⟨kk, e2, h⟩ := bind1 h
  obtain ⟨⟨dv, s2⟩, e3, h⟩ := bind1 h
  obtain ⟨c, h⟩ := ite_some h
  cases h
  refine (pe_disp (pps_cons (we_pe X k) (we_pe X v) pps_nil) rfl rfl (fun z => by cases z) (by show 1 ≤ 15; decide)).we fun p hp => ?_
  have sb0 : SB β H (upd H p (.dK [])) := SB.laid hp
  have rel0 := rel.step sb0 (same_bag (same_laid hp) rel.bag)
  refine hk rel0 e1 fun x H1 sb1 bg1 tx => ?_
  have rel1 := rel0.step sb1 bg1
  refine hv rel1 e3 fun y H2 sb2 bg2 ty => ?_
  have rel2 := rel1.step sb2 bg2
  have np := rel.neB hp
  have ep : H2 p = some (.dK []) := sb2 p _ np (sb1 p _ np upd_same)
  have ex : x = kV kk := by
    have e2' : dk = kD kk := keyOf_ok e2
    rw [e2'] at tx
    cases kk with
    | inl i => cases tx; rfl
    | inr i => cases tx; rfl
  have ry : ∀ hp', Rp X.K hp' y dv := by
    intro hp'
    have c : flatD dv = true := c
    cases dv with
    | none => cases ty; exact .non
    | bool b => cases ty; exact .bl b
    | int i => cases ty; exact .int i
    | str z => cases ty; exact .str z
    | list _ => cases c
    | tuple _ => cases c
    | dict _ => cases c
  refine ⟨ep, [(kk, y)], by rw [ex]; rfl, by show 1 ≤ 15; decide, ?_⟩
  have nO : ¬ O p := rel.notO hp
  refine q _ _ ?_ ?_ ⟨p, rfl, hp, np, [(kk, y)], ?_, rfl, .one (ry _)⟩
  · exact fun a o n e => by
      rw [upd_ne (ne_of_none e hp)]
      exact sb2 a o n (sb1 a o n (sb0 a o n e))
  · exact bg2.mono fun b o hb e => by rw [upd_ne (fun z => np (by rw [hb, z]))]; exact e
  · rw [upd_same]; rfl
/-! ### the bag is made -/
def frzAll (env : Env') : Env' := frzs (List.range env.length) env
def noOwS : Option R → Bool
  | some (.ow _) => false
  | _ => true
def noOw (env : Env') : Bool := env.all noOwS
def unbag : Option R → Option R
  | some .bag => none
  | x => x
theorem noOw_ok {env : Env'} (h : noOw env = true) {i : Nat} {d : D} (e : env[i]? = some (some (.ow d))) : False := by
  have := List.all_eq_true.mp h _ (List.mem_of_getElem? e)
  cases this
def noBagS : Option R → Bool
  | some .bag => false
  | _ => true
def bagF (i : Nat) (f : EF) (g : SF) (env : Env') (st : BSt) : Option (Out × Env' × BSt) := match st with
  | none => if noOw (frzAll env) && (frzAll env).all noBagS then (f (frzAll env) none).bind fun p => (match p with
    | (.ow (.list [.int a, .int b]), none) => (g ((frzAll env).set i (some .bag)) (some (a, b))).bind fun q => (match q.1 with
      | .rt (.fz d) => some (.rt (.fz d), env, none)
      | .rt _ => none
      | o => if noOw (frzAll q.2.1) then some (o, (frzAll q.2.1).map unbag, none) else none)
    | _ => none) else none
  | some _ => none
theorem ss_bag (C : CxS F S X) {x : Str} {i : Nat} {e : Expr} {rest : List Stmt} {f : EF} {g : SF} {p pos : Pos} (hx : tgtSlot S x = some i) (hc : noComp e = true) (he : SoundE X e f) (hg : SoundSs X rest g) : SoundSs X (.Assign [.Name x p] e pos :: rest) (bagF i f g) := by
  intro β Oo H0 O σ H env env' st st' o D rel h q
  unfold bagF at h
  cases st with
  | some _ => cases h
  | none =>
  have hβ : β = none := rel.bag
  cases hcc : noOw (frzAll env) && (frzAll env).all noBagS with
  | false => rw [hcc] at h; cases h
  | true =>
  rw [hcc] at h
  rw [Bool.and_eq_true] at hcc
  obtain ⟨c1, c2⟩ := hcc
  simp only [if_true] at h
  obtain ⟨O1, rel1, sm1⟩ := rel.frzs (List.range env.length)
  change Rel X.K β Oo H0 O1 σ H (frzAll env) none at rel1
  obtain ⟨⟨r, s1⟩, e1, h⟩ := bind1 h
  split at h
  · rename_i a b es
    cases es
    obtain ⟨⟨o2, env2, st2⟩, e2, h⟩ := bind1 h
    obtain ⟨h1, h2, h3, h4⟩ := tgtSlot_ok C hx
    refine (pss_cons (ps_set h1 h2 h3 (we_pe X e) (noComp_ok hc _ _ _) h4) (wss_pss X rest)).wss (he rel1 e1 fun v H1 sb1 bg1 rv => ?_)
    obtain ⟨pb, rfl, g1, g2, xs, g3, g4⟩ := rv
    have exs : xs = [.int a, .int b] := by
      cases g4 with
      | cons z1 z2 => cases z1; cases z2 with
        | cons z3 z4 => cases z3; cases z4; rfl
    subst exs
    have nO : ¬ O1 pb := rel1.notO g1
    have fm1 : Same (Fz O1 H) (Fz (orO O1 pb) H1) := rel1.putOw_same sb1 g1
    have relI : Rel X.K (some pb) (orO O1 pb) H1 (orO O1 pb) (σ.set i (some (.ref pb))) H1 ((frzAll env).set i (some .bag)) (some (a, b)) := {
      sl := fun j y ej => by
        rcases get_set ej with ⟨rfl, hl, z⟩ | ⟨hj, ej⟩
        · cases z; exact ⟨_, List.getElem?_set_self (by rw [← rel1.len]; exact hl), pb, rfl, rfl⟩
        · rw [set_ne hj]
          obtain ⟨w, w1, w2⟩ := rel1.sl j y ej
          refine ⟨w, w1, ?_⟩
          cases y with
          | fz d => exact Rp.mono fm1 w2
          | ow d => exact (noOw_ok c1 ej).elim
          | bag => have := List.all_eq_true.mp c2 _ (List.mem_of_getElem? ej); cases this
          | scr ns =>
            obtain ⟨aa, rfl, w4⟩ := w2
            rcases w4 with ⟨w3, oo, w4⟩ | w4
            · exact ⟨aa, rfl, .inl ⟨(fun z => by have z := Option.some.inj z; rw [← z, g1] at w4; cases w4), oo, sb1 aa _ w3 w4⟩⟩
            · exact ⟨aa, rfl, .inr w4⟩
      ne := fun j k d e' aa hjk k1 k2 k3 => by
        rcases get_set k1 with ⟨_, _, z⟩ | ⟨_, k1⟩
        · cases z
        · exact (noOw_ok c1 k1).elim
      fr := fun j d aa k1 k2 => by
        rcases get_set k1 with ⟨_, _, z⟩ | ⟨_, k1⟩
        · cases z
        · exact (noOw_ok c1 k1).elim
      len := by rw [List.length_set, List.length_set]; exact rel1.len
      sub := fun _ z => z
      dom := fun aa ha => by
        rcases ha with ha | rfl
        · exact (rel1.step sb1 bg1).dom aa ha
        · rw [g3]; simp
      dom0 := fun aa ha => by
        rcases ha with ha | rfl
        · exact (rel1.step sb1 bg1).dom aa ha
        · rw [g3]; simp
      sb := SB.refl
      bag := ⟨pb, rfl, g3⟩
      bO := fun b' z => .inr (Option.some.inj z).symm }
    have sub2 : ∀ {O2 : Addr → Prop} {σ2 : L2.St} {H2 : Hp} {env2 : Env'} {st2 : BSt}, Rel X.K (some pb) (orO O1 pb) H1 O2 σ2 H2 env2 st2 → Same (Fz (orO O1 pb) H1) (Fz O2 H2) → noOw (frzAll env2) = true →
        ∃ O4, Rel X.K β Oo H0 O4 σ2 H2 ((frzAll env2).map unbag) none ∧ Same (Fz O H) (Fz O4 H2) := fun {O2 σ2 H2 env2 st2} r2 sm2 n2 => by
      obtain ⟨O3, r3, sm3⟩ := r2.frzs (List.range env2.length)
      change Rel X.K (some pb) (orO O1 pb) H1 O3 σ2 H2 (frzAll env2) st2 at r3
      have un : ∀ {j : Nat} {y : R}, ((frzAll env2).map unbag)[j]? = some (some y) → (frzAll env2)[j]? = some (some y) ∧ y ≠ .bag := fun {j y} ej => by
        rw [List.getElem?_map] at ej
        obtain ⟨z, e1, e2⟩ := map1 ej
        cases z with
        | none => cases e2
        | some z => cases z <;> cases e2 <;> exact ⟨e1, fun z => by cases z⟩
      have fm2 : Same (Fz O3 H2) (Fz (orO O1 pb) H2) := fz_mono r3.sub fun _ _ _ z => z
      refine ⟨orO O1 pb, {
        sl := fun j y ej => by
          obtain ⟨ej, nb⟩ := un ej
          obtain ⟨w, w1, w2⟩ := r3.sl j y ej
          refine ⟨w, w1, ?_⟩
          cases y with
          | fz d => exact Rp.mono fm2 w2
          | ow d => exact (noOw_ok n2 ej).elim
          | bag => exact absurd rfl nb
          | scr ns =>
            obtain ⟨aa, rfl, w4⟩ := w2
            rcases w4 with ⟨w3, oo, w4⟩ | w4
            · exact ⟨aa, rfl, .inl ⟨by rw [hβ]; simp, oo, w4⟩⟩
            · exact ⟨aa, rfl, .inr w4⟩
        ne := fun j k d e' aa hjk k1 k2 k3 => (noOw_ok n2 (un k1).1).elim
        fr := fun j d aa k1 k2 => (noOw_ok n2 (un k1).1).elim
        len := by rw [List.length_map]; exact r3.len
        sub := fun aa ha => .inl (rel1.sub aa ha)
        dom := fun aa ha => r3.dom aa (r3.sub aa ha)
        dom0 := rel1.dom0
        sb := fun aa oo nb ea => by
          have e3 := rel1.sb aa oo nb ea
          have ap : aa ≠ pb := ne_of_none e3 g1
          exact r3.sb aa oo (fun z => ap (Option.some.inj z).symm) (sb1 aa oo nb e3)
        bag := hβ
        bO := rel1.bO }, ?_⟩
      exact sm1.trans (fm1.trans (sm2.trans (fz_mono r2.sub fun _ _ _ z => z)))
    have ne2 : ∀ {o3 : Out}, (if noOw (frzAll env2) = true then some (o3, (frzAll env2).map unbag, (none : BSt)) else none) = some (o, env', st') → noOw (frzAll env2) = true ∧ o3 = o ∧ (frzAll env2).map unbag = env' ∧ none = st' := fun {o3} hh => by
      cases hn : noOw (frzAll env2) with
      | false => rw [hn] at hh; cases hh
      | true => rw [hn] at hh; cases hh; exact ⟨rfl, rfl, rfl, rfl⟩
    refine hg relI e2 ?_
    cases o2 with
    | nx =>
      obtain ⟨n2, rfl, rfl, rfl⟩ := ne2 h
      exact fun σ2 H2 O2 r2 sm2 => let ⟨O4, r4, sm4⟩ := sub2 r2 sm2 n2; q _ _ _ r4 sm4
    | bk =>
      obtain ⟨n2, rfl, rfl, rfl⟩ := ne2 h
      exact fun σ2 H2 O2 r2 sm2 => let ⟨O4, r4, sm4⟩ := sub2 r2 sm2 n2; q _ _ _ r4 sm4
    | ct =>
      obtain ⟨n2, rfl, rfl, rfl⟩ := ne2 h
      exact fun σ2 H2 O2 r2 sm2 => let ⟨O4, r4, sm4⟩ := sub2 r2 sm2 n2; q _ _ _ r4 sm4
    | rt r =>
      cases r with
      | fz d =>
        cases h
        intro v H2 sb2 _ rv
        refine q v H2 (fun aa oo nb ea => ?_) hβ (Rp.mono (fz_mono (fun aa ha => .inl (rel1.sub aa ha)) fun _ _ _ z => z) rv)
        have e3 := rel1.sb aa oo nb ea
        have ap : aa ≠ pb := ne_of_none e3 g1
        exact sb2 aa oo (fun z => ap (Option.some.inj z).symm) (sb1 aa oo nb e3)
      | ow d => cases h
      | bag => cases h
      | scr ns => cases h
  · cases h
end
end Iv

set_option maxHeartbeats 4000000
namespace Iv
open PySem PySem.Spec PyProof.Rows L2
/-! ### the evaluator -/
structure Ev where
  e : Sx → Expr → EF
  t : Sx → Expr → TF
  s : Sx → List Stmt → SF
structure EvOk (F : FT) (P : Ev) : Prop where
  e : ∀ {S X}, CxS F S X → ∀ x, SoundE X x (P.e S x)
  t : ∀ {S X}, CxS F S X → ∀ x, SoundT X x (P.t S x)
  s : ∀ {S X}, CxS F S X → ∀ x, SoundSs X x (P.s S x)
def failT (_ : Env') (_ : BSt) : Option (Bool × BSt) := none
def failI (_ : Env') (_ : BSt) : Option (List D × BSt) := none
def pV (P : Ev) (S : Sx) : Expr → VF
  | .Name x _ => nameV S x
  | e => valF (P.e S e)
def orElse (f g : EF) (env : Env') (st : BSt) : Option (R × BSt) := match f env st with
  | some r => some r
  | none => g env st
section
variable {F : FT} {P : Ev} {S : Sx} {X : Cx}
theorem pV_ok (h : EvOk F P) (C : CxS F S X) (e : Expr) : SoundV X e (pV P S e) := by
  cases e with
  | Name x p => exact s_nameV C
  | _ => exact s_val (h.e C _)
theorem s_or {e : Expr} {f g : EF} (hf : SoundE X e f) (hg : SoundE X e g) : SoundE X e (orElse f g) := by
  intro β Oo H0 O σ H env st r st' Q rel h q
  unfold orElse at h
  split at h
  · rename_i r' e1; cases h; exact hf rel e1 q
  · exact hg rel h q
theorem t_fail {e : Expr} : SoundT X e failT := fun _ _ _ _ _ _ _ _ _ _ _ _ h => by cases h
theorem i_fail {tg e : Expr} : SoundI X tg e failI := fun _ _ _ _ _ _ _ _ _ _ _ _ h => by cases h
theorem ite_e {e : Expr} {c : Bool} {f : EF} (h : c = true → SoundE X e f) : SoundE X e (if c then f else failE) := by
  cases c with
  | true => exact h rfl
  | false => exact s_fail
theorem ite_s {s : Stmt} {c : Bool} {f : SF} (h : c = true → SoundS X s f) : SoundS X s (if c then f else failS) := by
  cases c with
  | true => exact h rfl
  | false => exact ss_fail
theorem args_ok (h : EvOk F P) (C : CxS F S X) : ∀ {es : List Expr}, es.all noStar = true → SoundA X es (argsF (es.map (P.e S)))
  | [], _ => s_args0
  | e :: es, hs => by
    simp only [List.all_cons, Bool.and_eq_true] at hs
    exact s_args hs.1 (h.e C e) (args_ok h C hs.2)
/-! pieces -/
def unE (P : Ev) (S : Sx) : UnaryOp → Expr → EF
  | .Not, a => notE (pV P S a)
  | .USub, a => negE (pV P S a)
  | _, _ => failE
theorem unE_ok (h : EvOk F P) (C : CxS F S X) {op : UnaryOp} {a : Expr} {pos : Pos} : SoundE X (.UnaryOp op a pos) (unE P S op a) := by
  cases op with
  | Not => exact s_notE (pV_ok h C a)
  | USub => exact s_negE (pV_ok h C a)
  | _ => exact s_fail
def boE (P : Ev) (S : Sx) (pos : Pos) : BoolOp → List Expr → EF
  | _, [a] => P.e S a
  | .And, a :: b :: r => andE (pV P S a) (P.e S (.BoolOp .And (b :: r) pos))
  | .Or, a :: b :: r => orE (pV P S a) (P.e S (.BoolOp .Or (b :: r) pos))
  | _, [] => failE
theorem boE_ok (h : EvOk F P) (C : CxS F S X) {op : BoolOp} {es : List Expr} {pos : Pos} : SoundE X (.BoolOp op es pos) (boE P S pos op es) := by
  cases es with
  | nil => cases op <;> exact s_fail
  | cons a r =>
    cases r with
    | nil => cases op <;> exact s_one (h.e C a)
    | cons b r => cases op with
      | And => exact s_andE (pV_ok h C a) (h.e C _)
      | Or => exact s_orE (pV_ok h C a) (h.e C _)
def cmE (P : Ev) (S : Sx) (a : Expr) : List CmpOp → List Expr → EF
  | [op], [b] => if noSet b then blF (cmpF op (pV P S a) (pV P S b)) else failE
  | [op, op'], [b, c] => if noSet b && noSet c then blF (chainF op op' (pV P S a) (pV P S b) (pV P S c)) else failE
  | _, _ => failE
theorem cmE_ok (h : EvOk F P) (C : CxS F S X) {a : Expr} {ops : List CmpOp} {bs : List Expr} {pos : Pos} : SoundE X (.Compare a ops bs pos) (cmE P S a ops bs) := by
  unfold cmE
  split
  · exact ite_e fun c => s_cmp C c (pV_ok h C a) (pV_ok h C _)
  · exact ite_e fun c => by
      rw [Bool.and_eq_true] at c
      exact (s_chain C c.1 c.2 (pV_ok h C a) (pV_ok h C _) (pV_ok h C _)).1
  · exact s_fail
def cmT (P : Ev) (S : Sx) (a : Expr) : List CmpOp → List Expr → TF
  | [op], [b] => if noSet b then cmpF op (pV P S a) (pV P S b) else failT
  | [op, op'], [b, c] => if noSet b && noSet c then chainF op op' (pV P S a) (pV P S b) (pV P S c) else failT
  | _, _ => failT
theorem cmT_ok (h : EvOk F P) (C : CxS F S X) {a : Expr} {ops : List CmpOp} {bs : List Expr} {pos : Pos} : SoundT X (.Compare a ops bs pos) (cmT P S a ops bs) := by
  unfold cmT
  split
  · split
    · rename_i c; exact s_cmpT C c (pV_ok h C a) (pV_ok h C _)
    · exact t_fail
  · split
    · rename_i c
      rw [Bool.and_eq_true] at c
      exact (s_chain C c.1 c.2 (pV_ok h C a) (pV_ok h C _) (pV_ok h C _)).2
    · exact t_fail
  · exact t_fail
def diE (P : Ev) (S : Sx) : List (Option Expr) → List Expr → EF
  | [], [] => dict0
  | [some k], [v] => dict1 (pV P S k) (pV P S v)
  | _, _ => failE
theorem diE_ok (h : EvOk F P) (C : CxS F S X) {ks : List (Option Expr)} {vs : List Expr} {pos : Pos} : SoundE X (.Dict ks vs pos) (diE P S ks vs) := by
  unfold diE
  split
  · exact s_dict0
  · exact s_dict1 (pV_ok h C _) (pV_ok h C _)
  · exact s_fail
def partE (P : Ev) (S : Sx) : Option Expr → OF
  | none => partF none
  | some e => partF (some (pV P S e))
theorem partE_ok (h : EvOk F P) (C : CxS F S X) (o : Option Expr) : SoundO X o (partE P S o) := by
  cases o with
  | none => exact s_part0
  | some e => exact s_part (pV_ok h C e)
def suE (P : Ev) (S : Sx) (a : Expr) : Expr → EF
  | .Slice lo hi none _ => slF (pV P S a) (partE P S lo) (partE P S hi)
  | .Slice none none (some (.UnaryOp .USub (.Constant (.int 1) _ _) _)) _ => revF (pV P S a)
  | i => if plainIx i then (match a with
    | .Name x _ => orElse (ixN' S x (pV P S i)) (ixF (pV P S a) (pV P S i))
    | _ => ixF (pV P S a) (pV P S i)) else failE
theorem suE_ok (h : EvOk F P) (C : CxS F S X) {a i : Expr} {pos : Pos} : SoundE X (.Subscript a i pos) (suE P S a i) := by
  unfold suE
  split
  · exact s_slice (pV_ok h C a) (partE_ok h C _) (partE_ok h C _)
  · exact s_rev (pV_ok h C a)
  · refine ite_e fun c => ?_
    split
    · exact s_or (s_ixN C c (pV_ok h C _)) (s_ix c (pV_ok h C _) (pV_ok h C _))
    · exact s_ix c (pV_ok h C _) (pV_ok h C _)
def isE (P : Ev) (S : Sx) (e : Expr) : Expr → EF
  | .Tuple [c, c'] _ _ => (match tyOf S c, tyOf S c' with
    | some t, some u => isiF2 t u (pV P S e)
    | _, _ => failE)
  | c => (match tyOf S c with
    | some t => isiF t (pV P S e)
    | none => failE)
def caE (F : FT) (P : Ev) (S : Sx) (pos : Pos) : Expr → List Expr → List Keyword → EF
  | .Name x _, e :: es, [] =>
    if (e :: es).all noStar then
      if isFn S x then callF F x (argsF ((e :: es).map (P.e S)))
      else match es with
        | [] => (match bl1 S x with
          | some .len => (match e with
            | .Name y _ => orElse (lenN S y) (bltF1 .len (pV P S e))
            | _ => bltF1 .len (pV P S e))
          | some .sorted => (match e with
            | .Call (.Name y _) [e'] [] _ => if isB2 S "sorted" x && isB2 S "set" y && noStar e' then ssF (pV P S e') else bltF1 .sorted (pV P S e)
            | _ => bltF1 .sorted (pV P S e))
          | some b => bltF1 b (pV P S e)
          | none => failE)
        | [c] => if isInst S x then isE P S e c else (match bl2 S x with
          | some b => bltF2 b (pV P S e) (pV P S c)
          | none => failE)
        | _ => failE
    else failE
  | .Attribute o m apos, [], [] => if decide (m = "upper") && noCall0 o && (apos.endLine == pos.line) then upF (pV P S o) else failE
  | _, _, _ => failE
theorem isE_ok (h : EvOk F P) (C : CxS F S X) {x : Str} {e c : Expr} {p pos : Pos} (hx : isInst S x = true) (hn : noStar e = true) : SoundE X (.Call (.Name x p) [e, c] [] pos) (isE P S e c) := by
  unfold isE
  split
  · split
    · rename_i t u e1 e2; exact s_isi2 C hx e1 e2 hn (pV_ok h C e)
    · exact s_fail
  · split
    · rename_i t e1; exact s_isi C hx e1 hn (pV_ok h C e)
    · exact s_fail
theorem caE_ok (h : EvOk F P) (C : CxS F S X) {f : Expr} {as : List Expr} {ks : List Keyword} {pos : Pos} : SoundE X (.Call f as ks pos) (caE F P S pos f as ks) := by
  unfold caE
  split
  · rename_i x p e es
    refine ite_e fun c => ?_
    have c' := c
    simp only [List.all_cons, Bool.and_eq_true] at c'
    split
    · rename_i hx
      exact s_call C hx c'.1 c'.2 (args_ok h C c)
    · split
      · split
        · rename_i hb
          split
          · exact s_or (s_lenN C hb) (s_blt1 C hb c'.1 (pV_ok h C _))
          · exact s_blt1 C hb c'.1 (pV_ok h C _)
        · rename_i hb
          split
          · split
            · rename_i c3
              simp only [Bool.and_eq_true] at c3
              exact s_ss C c3.1.1 c3.1.2 c3.2 (pV_ok h C _)
            · exact s_blt1 C hb c'.1 (pV_ok h C _)
          · exact s_blt1 C hb c'.1 (pV_ok h C _)
        · rename_i b hb; exact s_blt1 C hb c'.1 (pV_ok h C _)
        · exact s_fail
      · rename_i cc
        have c2 : noStar cc = true := by simpa using c'.2
        split
        · rename_i hx; exact isE_ok h C hx c'.1
        · split
          · rename_i b hb; exact s_blt2 C hb c'.1 c2 (pV_ok h C _) (pV_ok h C _)
          · exact s_fail
      · exact s_fail
  · refine ite_e fun c => ?_
    simp only [Bool.and_eq_true] at c
    have em := of_decide_eq_true c.1.1
    subst em
    exact s_up c.1.2 c.2 (pV_ok h C _)
  · exact s_fail
/-! targets, iterables, comprehensions -/
def tgE (S : Sx) : Expr → Option (List Nat × GF)
  | .Name x _ => (tgtSlot S x).map fun i => ([i], setF i)
  | .Tuple es _ _ => (slotsT S es).map fun is => (is, unF is)
  | _ => none
theorem tgE_ok (C : CxS F S X) {tg : Expr} {p : List Nat × GF} (h : tgE S tg = some p) : SoundG X tg p.1 p.2 := by
  unfold tgE at h
  split at h
  · obtain ⟨i, e, rfl⟩ := map1 h; exact g_name C e
  · obtain ⟨is, e, rfl⟩ := map1 h; exact g_tup C e
  · cases h
def isTupT : Expr → Bool
  | .Tuple .. => true
  | _ => false
def itE (P : Ev) (S : Sx) (tg : Expr) (e : Expr) : IF := match e with
  | .Call (.Name x _) [a] [] _ => if isB S "range" x && noStar a then rangeF (pV P S a) else if isB S "enumerate" x && noStar a && isTupT tg then enumF (P.e S a) else plainF (P.e S e)
  | .Call (.Name x _) [a, b] [] _ => if isB S "zip" x && noStar a && noStar b && isTupT tg then zipF (P.e S a) (P.e S b) else plainF (P.e S e)
  | _ => plainF (P.e S e)
theorem itE_ok (h : EvOk F P) (C : CxS F S X) (tg e : Expr) : SoundI X tg e (itE P S tg e) := by
  unfold itE
  split
  · split
    · rename_i c; rw [Bool.and_eq_true] at c; exact s_range C c.1 c.2 (pV_ok h C _)
    · split
      · rename_i c
        simp only [Bool.and_eq_true] at c
        cases tg with
        | Tuple es k tp => exact s_enum C c.1.1 c.1.2 (h.e C _)
        | _ => cases c.2
      · exact s_iter (h.e C _)
  · split
    · rename_i c
      simp only [Bool.and_eq_true] at c
      cases tg with
      | Tuple es k tp => exact s_zip C c.1.1.1 c.1.1.2 c.1.2 (h.e C _) (h.e C _)
      | _ => cases c.2
    · exact s_iter (h.e C _)
  · exact s_iter (h.e C _)
def isFnK : ScopeKind → Bool
  | .function => true
  | _ => false
def ifsE (P : Ev) (S : Sx) : List Expr → TF
  | [] => yesT
  | [c] => P.t S c
  | _ => failT
theorem ifsE_ok (h : EvOk F P) (C : CxS F S X) (ifs : List Expr) : SoundTs X ifs (ifsE P S ifs) ∨ ifsE P S ifs = failT := by
  cases ifs with
  | nil => exact .inl s_ifs0
  | cons c r =>
    cases r with
    | nil => exact .inl (s_ifs1 (h.t C c))
    | cons d r => exact .inr rfl
def lcOk (S : Sx) (scope : Scope) (iter : Expr) (ifs : List Expr) (sl : List Nat) : Bool :=
  isFnK scope.kind && blkC S.N S.sc scope (ownOf S.N scope.names) && noSetI iter && (sl.all fun j => decide (j ∈ (ownOf S.N scope.names).map (·.2))) && decide (ifs.length ≤ 1)
def lcE (P : Ev) (S : Sx) (elt : Expr) (gens : List Comprehension) (scope : Scope) : EF := match gens with
  | [⟨tg, iter, ifs, 0⟩] => (match tgE (S.inner scope) tg with
    | some p => if lcOk S scope iter ifs p.1 then lcF (itE P S tg iter) ((ownOf S.N scope.names).map (·.2)) p.2 (ifsE P (S.inner scope) ifs) (P.e (S.inner scope) elt) else failE
    | none => failE)
  | _ => failE
theorem lcOk_ok {scope : Scope} {iter : Expr} {ifs : List Expr} {sl : List Nat} (c : lcOk S scope iter ifs sl = true) : scope.kind = .function ∧ blkC S.N S.sc scope (ownOf S.N scope.names) = true ∧ noSetI iter = true ∧ (∀ j ∈ sl, j ∈ (ownOf S.N scope.names).map (·.2)) ∧ ifs.length ≤ 1 := by
  unfold lcOk at c
  simp only [Bool.and_eq_true, decide_eq_true_eq, List.all_eq_true] at c
  refine ⟨?_, c.1.1.1.2, c.1.1.2, c.1.2, c.2⟩
  have k := c.1.1.1.1
  revert k
  cases scope.kind <;> simp [isFnK]
theorem ifs_sound (h : EvOk F P) (C : CxS F S X) {ifs : List Expr} (hl : ifs.length ≤ 1) : SoundTs X ifs (ifsE P S ifs) := by
  match ifs, hl with
  | [], _ => exact s_ifs0
  | [c], _ => exact s_ifs1 (h.t C c)
theorem lcE_ok (h : EvOk F P) (C : CxS F S X) {elt : Expr} {gens : List Comprehension} {scope : Scope} {pos : Pos} : SoundE X (.ListComp elt gens scope pos) (lcE P S elt gens scope) := by
  unfold lcE
  split
  · split
    · rename_i p e1
      refine ite_e fun c => ?_
      obtain ⟨c1, c2, c3, c4, c5⟩ := lcOk_ok c
      exact s_lc C c1 c2 c3 (itE_ok h C _ _) c4 (fun X' C' _ => tgE_ok C' e1) (fun X' C' _ => ifs_sound h C' c5) (fun X' C' _ => h.e C' _)
    · exact s_fail
  · exact s_fail
def stepE (F : FT) (P : Ev) (S : Sx) : Expr → EF
  | .Constant c _ _ => constF c
  | .Name x _ => nameF S x
  | .BinOp a op b _ => binF op (pV P S a) (pV P S b)
  | .UnaryOp op a _ => unE P S op a
  | .BoolOp op es pos => boE P S pos op es
  | .IfExp c a b _ => ifE (P.t S c) (P.e S a) (P.e S b)
  | .Compare a ops bs _ => cmE P S a ops bs
  | .Tuple es _ _ => if es.all noStar then tupF (argsF (es.map (P.e S))) else failE
  | .List es _ => if es.all noStar then lstF (argsF (es.map (P.e S))) else failE
  | .Dict ks vs _ => diE P S ks vs
  | .Subscript a i _ => suE P S a i
  | .Call f as ks pos => caE F P S pos f as ks
  | .ListComp elt gens scope _ => lcE P S elt gens scope
  | _ => failE
theorem stepE_ok (h : EvOk F P) (C : CxS F S X) (e : Expr) : SoundE X e (stepE F P S e) := by
  cases e with
  | Constant c k p => exact s_const
  | Name x p => exact s_name C
  | BinOp a op b p => exact s_bin (pV_ok h C a) (pV_ok h C b)
  | UnaryOp op a p => exact unE_ok h C
  | BoolOp op es p => exact boE_ok h C
  | IfExp c a b p => exact s_if (h.t C c) (h.e C a) (h.e C b)
  | Compare a ops bs p => exact cmE_ok h C
  | Tuple es k p => exact ite_e fun c => s_tup (args_ok h C c)
  | List es p => exact ite_e fun c => s_lst (args_ok h C c)
  | Dict ks vs p => exact diE_ok h C
  | Subscript a i p => exact suE_ok h C
  | Call f as ks p => exact caE_ok h C
  | ListComp elt gens scope p => exact lcE_ok h C
  | _ => exact s_fail
def boT (P : Ev) (S : Sx) : BoolOp → List Expr → TF
  | _, [] => failT
  | _, [a] => P.t S a
  | .And, a :: b :: r => andT (P.t S a) (boT P S .And (b :: r))
  | .Or, a :: b :: r => orT (P.t S a) (boT P S .Or (b :: r))
theorem boT_ok (h : EvOk F P) (C : CxS F S X) {op : BoolOp} {pos : Pos} : ∀ {es : List Expr}, SoundW X (.BoolOp op es pos) (boT P S op es)
  | [] => fun _ _ _ _ _ _ _ _ _ _ _ _ hf => by cases op <;> cases hf
  | [a] => by cases op with
    | And => exact s_and1 (h.t C a)
    | Or => exact s_or1 (h.t C a)
  | a :: b :: r => by cases op with
    | And => exact s_andT (h.t C a) (boT_ok h C)
    | Or => exact s_orT (h.t C a) (boT_ok h C)
def stepT (F : FT) (P : Ev) (S : Sx) : Expr → TF
  | .UnaryOp .Not a _ => notT (P.t S a)
  | .BoolOp op es _ => boT P S op es
  | .Compare a ops bs _ => cmT P S a ops bs
  | e => if plainT e then tstF (valF (stepE F P S e)) else failT
theorem stepT_ok (h : EvOk F P) (C : CxS F S X) (e : Expr) : SoundT X e (stepT F P S e) := by
  have d : ∀ e, SoundT X e (if plainT e then tstF (valF (stepE F P S e)) else failT) := fun e => by
    split
    · rename_i c; exact s_tst c (s_val (stepE_ok h C e))
    · exact t_fail
  unfold stepT
  split
  · exact s_notT (h.t C _)
  · exact (boT_ok h C).t
  · exact cmT_ok h C
  · exact d e
end
end Iv

set_option maxHeartbeats 4000000
namespace Iv
open PySem PySem.Spec PyProof.Rows L2
/-! ### names that get away -/
def eats : List Str := ["len", "abs", "all", "list", "tuple", "str", "sum", "sorted", "isinstance", "set"]
def topx (f : Expr → List Str) : Expr → List Str
  | .Name _ _ => []
  | e => f e
def esc : Nat → Expr → List Str
  | 0, _ => []
  | _ + 1, .Name x _ => [x]
  | n + 1, .Call (.Name f _) as _ _ => if f ∈ eats then as.flatMap (topx (esc n)) else as.flatMap (esc n)
  | n + 1, .Call (.Attribute o _ _) as _ _ => topx (esc n) o ++ as.flatMap (esc n)
  | n + 1, .BinOp a _ b _ => topx (esc n) a ++ topx (esc n) b
  | n + 1, .UnaryOp _ a _ => topx (esc n) a
  | n + 1, .BoolOp _ es _ => es.flatMap (topx (esc n))
  | n + 1, .Compare a _ bs _ => topx (esc n) a ++ bs.flatMap (topx (esc n))
  | n + 1, .IfExp c a b _ => topx (esc n) c ++ esc n a ++ esc n b
  | n + 1, .Tuple es _ _ => es.flatMap (esc n)
  | n + 1, .List es _ => es.flatMap (esc n)
  | n + 1, .Subscript a i _ => topx (esc n) a ++ topx (esc n) i
  | n + 1, .Slice lo hi _ _ => (match lo with | some e => esc n e | none => []) ++ (match hi with | some e => esc n e | none => [])
  | n + 1, .ListComp elt gens _ _ => esc n elt ++ gens.flatMap fun g => esc n g.iter ++ g.ifs.flatMap (topx (esc n))
  | _, _ => []
def escS : Stmt → List Str
  | .Assign _ e _ => esc 12 e
  | .Return (some (.Name _ _)) _ => []
  | .Return (some e) _ => esc 12 e
  | .Expr (.Call (.Attribute (.Name _ _) _ _) as _ _) _ => as.flatMap (esc 12)
  | .If c _ _ _ => topx (esc 12) c
  | .While c _ _ _ => topx (esc 12) c
  | .For _ it _ _ _ => esc 12 it
  | .AugAssign _ _ e _ => esc 12 e
  | _ => []
def escI (S : Sx) (s : Stmt) : List Nat := (escS s).filterMap (slotOf S)
section
variable {F : FT} {P : Ev} {S : Sx} {X : Cx} {w : Wh}
/-! ### statements -/
def asN (P : Ev) (S : Sx) (i : Nat) : Expr → SF
  | .ListComp elt [⟨tg, iter, ifs, 0⟩] scope _ => (match tgE (S.inner scope) tg with
    | some p => if lcOk S scope iter ifs p.1 then asgF i (lcF (itE P S tg iter) ((ownOf S.N scope.names).map (·.2)) p.2 (ifsE P (S.inner scope) ifs) (P.e (S.inner scope) elt)) else failS
    | none => failS)
  | e => if noComp e then asgF i (P.e S e) else failS
theorem asN_ok (h : EvOk F P) (C : CxS F S X) {x : Str} {i : Nat} (hx : tgtSlot S x = some i) (e : Expr) {p pos : Pos} : SoundS X (.Assign [.Name x p] e pos) (asN P S i e) := by
  unfold asN
  split
  · split
    · rename_i q e1
      refine ite_s fun c => ?_
      obtain ⟨c1, c2, c3, c4, c5⟩ := lcOk_ok c
      exact ss_asgLc C c1 c2 c3 hx (itE_ok h C _ _) c4 (fun X' C' _ => tgE_ok C' e1) (fun X' C' _ => ifs_sound h C' c5) (fun X' C' _ => h.e C' _)
    · exact ss_fail
  · exact ite_s fun c => ss_asg C hx c (h.e C _)
def asT (P : Ev) (S : Sx) (ts : List Expr) (k : Nat) (pt : Pos) (v : Expr) : SF :=
  match ts, v with
  | [.Name x px, .Name y py], .Tuple [a, b] _ _ => (match tgtSlot S x, tgtSlot S y with
    | some i, some j => if swap2 S x y px py a b && decide (i ≠ j) then par2F i j (P.e S a) (P.e S b) else failS
    | _, _ => failS)
  | [.Name x px, .Name y py, .Name z pz], .Tuple [a, b, c] _ _ => (match tgtSlot S x, tgtSlot S y, tgtSlot S z with
    | some i, some j, some l => if swap3 S x y z px py pz a b c && decide (i ≠ j) && decide (i ≠ l) && decide (j ≠ l) then par3F i j l (P.e S a) (P.e S b) (P.e S c) else failS
    | _, _, _ => failS)
  | [.Subscript (.Name x _) i _, .Subscript (.Name y _) j _], v => if decide (x = y) && plainIx i && plainIx j then swF S x (P.e S v) (pV P S i) (pV P S j) else failS
  | ts, v => if noTup v then (match slotsT S ts with
    | some is => unpF (P.e S v) (unF is)
    | none => failS) else failS
theorem asT_ok (h : EvOk F P) (C : CxS F S X) (ts : List Expr) (k : Nat) (pt : Pos) (v : Expr) {pos : Pos} : SoundS X (.Assign [.Tuple ts k pt] v pos) (asT P S ts k pt v) := by
  unfold asT
  split
  · split
    · rename_i i j e1 e2
      refine ite_s fun c => ?_
      rw [Bool.and_eq_true] at c
      exact ss_par2 C c.1 e1 e2 (of_decide_eq_true c.2) (h.e C _) (h.e C _)
    · exact ss_fail
  · split
    · rename_i i j l e1 e2 e3
      refine ite_s fun c => ?_
      simp only [Bool.and_eq_true] at c
      exact ss_par3 C c.1.1.1 e1 e2 e3 (of_decide_eq_true c.1.1.2) (of_decide_eq_true c.1.2) (of_decide_eq_true c.2) (h.e C _) (h.e C _) (h.e C _)
    · exact ss_fail
  · refine ite_s fun c => ?_
    simp only [Bool.and_eq_true] at c
    have e1 := of_decide_eq_true c.1.1
    subst e1
    exact ss_sw C c.1.2 c.2 (h.e C _) (pV_ok h C _) (pV_ok h C _)
  · refine ite_s fun c => ?_
    split
    · rename_i is e1
      exact ss_unp c (h.e C _) (g_tup C e1)
    · exact ss_fail
def asE (P : Ev) (S : Sx) : List Expr → Expr → SF
  | [.Name x _], e => (match tgtSlot S x with
    | some i => asN P S i e
    | none => failS)
  | [.Tuple ts k pt], v => asT P S ts k pt v
  | [.Subscript (.Name x _) i _], e => if plainIx i && noComp e then setN S x (P.e S e) (pV P S i) else failS
  | _, _ => failS
theorem asE_ok (h : EvOk F P) (C : CxS F S X) {ts : List Expr} {v : Expr} {pos : Pos} : SoundS X (.Assign ts v pos) (asE P S ts v) := by
  unfold asE
  split
  · split
    · rename_i i e1; exact asN_ok h C e1 _
    · exact ss_fail
  · exact asT_ok h C _ _ _ _
  · refine ite_s fun c => ?_
    rw [Bool.and_eq_true] at c
    exact ss_setN C c.1 c.2 (h.e C _) (pV_ok h C _)
  · exact ss_fail
def exE (P : Ev) (S : Sx) : Expr → SF
  | .Call (.Attribute (.Name x _) m apos) [e] [] cpos => if decide (m = "append") && (apos.endLine == cpos.line) && noStar e then appF S x (P.e S e) else failS
  | .Constant (.str _) _ _ => skipS
  | _ => failS
theorem exE_ok (h : EvOk F P) (C : CxS F S X) {e : Expr} {pos : Pos} : SoundS X (.Expr e pos) (exE P S e) := by
  unfold exE
  split
  · refine ite_s fun c => ?_
    simp only [Bool.and_eq_true] at c
    have em := of_decide_eq_true c.1.1
    subst em
    exact ss_app C c.1.2 c.2 (h.e C _)
  · intro β Oo H0 O σ H env env' st st' o D rel hf q
    cases hf
    exact ps_doc.ws (q _ _ _ rel (Same.refl _))
  · exact ss_fail
def stepS (w : Wh) (P : Ev) (S : Sx) : Stmt → SF
  | .Assign ts v _ => asE P S ts v
  | .Expr e _ => exE P S e
  | .Return (some (.Name x p)) _ => retN S x (retF (P.e S (.Name x p)))
  | .Return (some e) _ => retF (P.e S e)
  | .If c a b _ => ifS (P.t S c) (P.s S a) (P.s S b)
  | .While c a [] _ => w (P.t S c) (P.s S a)
  | .For tg it a [] _ => (match tgE S tg with
    | some p => if noSetI it then forF (itE P S tg it) p.2 (P.s S a) else failS
    | none => failS)
  | .Pass _ => skipS
  | .Break _ => fun env st => some (.bk, env, st)
  | .Continue _ => fun env st => some (.ct, env, st)
  | _ => failS
theorem stepS_ok (hw : WhOk w) (h : EvOk F P) (C : CxS F S X) (s : Stmt) : SoundS X s (stepS w P S s) := by
  unfold stepS
  split
  · exact asE_ok h C
  · exact exE_ok h C
  · exact ss_retN C (ss_ret (h.e C _))
  · exact ss_ret (h.e C _)
  · exact ss_if (h.t C _) (h.s C _) (h.s C _)
  · exact ss_while C hw (h.t C _) (h.s C _)
  · split
    · rename_i p e1
      exact ite_s fun c => ss_for C c (itE_ok h C _ _) (tgE_ok C e1) (h.s C _)
    · exact ss_fail
  · exact ss_pass
  · exact ss_break
  · exact ss_continue
  · exact ss_fail
def bagMk : Stmt → Bool
  | .Assign [.Name _ _] (.Call (.Name f _) _ _ _) _ => decide (f = "_law_bag")
  | _ => false
def blkS (w : Wh) (P : Ev) (S : Sx) : List Stmt → SF
  | [] => skipS
  | s :: rest => if bagMk s then (match s with
    | .Assign [.Name x _] e _ => (match tgtSlot S x with
      | some i => if noComp e then bagF i (P.e S e) (P.s S rest) else failS
      | none => failS)
    | _ => failS) else seqS (frzS (escI S s) (stepS w P S s)) (P.s S rest)
theorem sss_fail {s : List Stmt} : SoundSs X s failS := fun _ _ _ _ _ _ _ _ _ _ _ _ _ h => by cases h
theorem blkS_ok (hw : WhOk w) (h : EvOk F P) (C : CxS F S X) (ss : List Stmt) : SoundSs X ss (blkS w P S ss) := by
  cases ss with
  | nil => exact ss_nil
  | cons s rest =>
    dsimp only [blkS]
    split
    · split
      · split
        · rename_i i e1
          split
          · rename_i c; exact ss_bag C e1 c (h.e C _) (h.s C _)
          · exact sss_fail
        · exact sss_fail
      · exact sss_fail
    · exact ss_cons (ss_frz _ (stepS_ok hw h C s)) (h.s C rest)
def ev (w : Wh) (F : FT) : Nat → Ev
  | 0 => ⟨fun _ _ => failE, fun _ _ => failT, fun _ _ => failS⟩
  | n + 1 => ⟨fun S => stepE F (ev w F n) S, fun S => stepT F (ev w F n) S, fun S => blkS w (ev w F n) S⟩
theorem ev_ok (hw : WhOk w) : ∀ n, EvOk F (ev w F n)
  | 0 => ⟨fun _ _ => s_fail, fun _ _ => t_fail, fun _ _ => sss_fail⟩
  | n + 1 => ⟨fun C x => stepE_ok (ev_ok hw n) C x, fun C x => stepT_ok (ev_ok hw n) C x, fun C x => blkS_ok hw (ev_ok hw n) C x⟩
end
/-! ### defs -/
/-- a def of the text: its names by slot, its parameters -/
structure Df where
  st : Stmt
  N : List Str
  ps : List Str
def runDf (w : Wh) (F : FT) (gl : Str → Option Gv) (n : Nat) (d : Df) (rs : List R) (st : BSt) : Option (R × BSt) :=
  if rs.length = d.ps.length then
    ((ev w F n).s { N := d.N, sc := defScope d.st, gl := gl } (defBody d.st) (rs.map some ++ List.replicate (d.N.length - rs.length) none) st).bind fun p => (match p.1 with
      | .rt r => some (r, p.2.2)
      | .nx => some (.fz .none, p.2.2)
      | _ => none)
  else none
section
variable {P : Program} {w : World} {K : PySem.W.Frag} {mg : Str → Option Value} {base : Heap}
theorem args_slots {β : Option Addr} {Oo : Addr → Prop} {H : Hp} : ∀ {vs : List V} {rs : List R}, ArgsAt K β Oo H vs rs → ∀ (i : Nat) r, rs[i]? = some r → ∃ v, vs[i]? = some v ∧ ArgAt K β Oo H v r
  | _, _, .nil, i, r, e => by simp at e
  | _, _, .cons a b, 0, r, e => by simp at e; subst e; exact ⟨_, rfl, a⟩
  | _, _, .cons a b, i + 1, r, e => by
    obtain ⟨v, h1, h2⟩ := args_slots b i r (by simpa using e)
    exact ⟨v, by simpa using h1, h2⟩
/-- the globals of the module, read once: all but the room -/
structure Glb (P : Program) (w : World) (K : PySem.W.Frag) (mg : Str → Option Value) (base : Heap) (gl : Str → Option Gv) (F : FT) (k : Nat) : Prop where
  blt : ∀ x, gl x = some .blt → mg x = none
  cst : ∀ x d, gl x = some (.cst d) → ∃ v u, mg x = some u ∧ RelV v u ∧ ∀ H, Rp K H v d
  fn : ∀ x, gl x = some .fn → ∃ f fd ps, mg x = some (.ref f) ∧ PySem.W.keepIn K (.ref f) = true ∧ Binds K fd ps [] ∧ FnOk P w K mg base CX0 k f fd ps (spI K ps.length (F x)) ∧ ∀ rs st r, F x rs st = some r → rs.length = ps.length
theorem df_ok {wh : Wh} (hw : WhOk wh) {F : FT} {gl : Str → Option Gv} {k : Nat} (G : Glb P w K mg base gl F k) {x : Str} {d : Df} {f : Addr} {fd : FuncData} (n : Nat) (U : FunD K x x (defArgs d.st) (defBody d.st) (defScope d.st) [] [] f fd) (Sc : FnScope d.N d.ps (defScope d.st)) :
    FnOk P w K mg base CX0 (k + 1) f fd d.ps (spI K d.ps.length (runDf wh F gl n d)) := by
  refine U.ok Sc (fun vs H Q E h => h.1) (fun cdv A outer s H vs Q E hr h => ?_)
  obtain ⟨hl, β, Oo, rs, st, r, st', av, hb, hO, bg, hf, q⟩ := h
  unfold runDf at hf
  have hrl : rs.length = d.ps.length := by rw [← paired_length av]; exact hl
  rw [if_pos hrl] at hf
  obtain ⟨⟨o, env', st1⟩, e1, hf⟩ := bind1 hf
  let X := (cxOf CX0 P w K mg base d.N x (defScope d.st) f cdv A outer s H E).nox
  have C : CxS F { N := d.N, sc := defScope d.st, gl := gl } X := {
    N := rfl
    sc := rfl
    calm := rfl
    nd := Sc.nd
    hu := by
      have h1 := hr.un
      show (A.deeper (envOfC x (defScope d.st) s.heap.objs.size f cdv)).units + 65 < cLine
      omega
    fn := fun _ _ => rfl
    gl := fun y g e => by
      cases g with
      | blt => exact G.blt y e
      | cst dd => exact G.cst y dd e
      | fn =>
        obtain ⟨f', fd', ps', h1, h2, h3, h4, h5⟩ := G.fn y e
        exact ⟨k, f', fd', ps', h1, h2, h3, hr, h4, h5⟩
    xe := rfl
    kind := Sc.kind }
  refine ⟨_, PSs.nox (wss_pss X (defBody d.st)), ?_⟩
  have hNl : d.ps.length ≤ d.N.length := by have := congrArg List.length Sc.pre; rw [List.length_take] at this; omega
  have rel : Rel K β Oo H Oo (L2.start d.N vs) H (rs.map some ++ List.replicate (d.N.length - rs.length) none) st := {
    sl := fun i r' e => by
      rcases Nat.lt_or_ge i rs.length with hi | hi
      · rw [List.getElem?_append_left (by simpa using hi), List.getElem?_map] at e
        obtain ⟨r2, e2, e3⟩ := map1 e
        cases e3
        obtain ⟨v, h1, h2⟩ := args_slots av i r' e2
        refine ⟨v, ?_, h2.2⟩
        unfold L2.start
        rw [List.getElem?_append_left (by rw [List.length_map, hl, ← hrl]; exact hi), List.getElem?_map, h1]; rfl
      · rw [List.getElem?_append_right (by simpa using hi), List.getElem?_replicate] at e
        split at e <;> cases e
    ne := fun i j d1 d2 a _ h1 _ _ => by
      exfalso
      rcases Nat.lt_or_ge i rs.length with hi | hi
      · rw [List.getElem?_append_left (by simpa using hi), List.getElem?_map] at h1
        obtain ⟨r2, e2, e3⟩ := map1 h1
        cases e3
        obtain ⟨v, _, h2⟩ := args_slots av i _ e2
        exact h2.1 _ rfl
      · rw [List.getElem?_append_right (by simpa using hi), List.getElem?_replicate] at h1
        split at h1 <;> cases h1
    fr := fun i d1 a h1 _ => by
      exfalso
      rcases Nat.lt_or_ge i rs.length with hi | hi
      · rw [List.getElem?_append_left (by simpa using hi), List.getElem?_map] at h1
        obtain ⟨r2, e2, e3⟩ := map1 h1
        cases e3
        obtain ⟨v, _, h2⟩ := args_slots av i _ e2
        exact h2.1 _ rfl
      · rw [List.getElem?_append_right (by simpa using hi), List.getElem?_replicate] at h1
        split at h1 <;> cases h1
    len := by
      unfold L2.start
      simp only [List.length_append, List.length_map, List.length_replicate]
      omega
    sub := fun _ z => z
    dom := hO
    dom0 := hO
    sb := SB.refl
    bag := bg
    bO := hb }
  refine (ev_ok hw n).s C (defBody d.st) rel e1 ?_
  cases o with
  | rt r' => cases hf; exact fun v H' s1 b1 r1 => q v H' s1 b1 r1
  | nx => cases hf; exact fun σ' H' O' r1 s1 => q _ H' r1.sb r1.bag .non
  | bk => cases hf
  | ct => cases hf
end
end Iv

set_option maxHeartbeats 4000000
namespace Iv
open PySem PySem.Spec PyProof.Rows L2
/-! ### the table of a text -/
structure DefOk (d : Df) : Prop where
  sc : FnScope d.N d.ps (defScope d.st)
  bi : ∀ (x : Str) (kV doc pm : Value) (an : Option Addr) (cdv ct : Value) (us : List Value), us.length = d.ps.length → bindArgs (PySem.W.fnOf x x (defArgs d.st) (defBody d.st) (defScope d.st) .none kV doc pm an cdv ct) ⟨us, []⟩ = pure (d.ps.zip us)
structure Tbl where
  dfs : List (Str × Df)
  csts : List (Str × Sum Int Str)
  blts : List Str
def cstD : Sum Int Str → D
  | .inl i => .int i
  | .inr z => .str z
def cstFa (x : Str) : Sum Int Str → He.Fa
  | .inl i => .int x i
  | .inr z => .str x z
def Tbl.gl (T : Tbl) (x : Str) : Option Gv := match T.dfs.lookup x with
  | some _ => some .fn
  | none => (match T.csts.lookup x with
    | some c => some (.cst (cstD c))
    | none => if x ∈ T.blts then some .blt else none)
def Tbl.F (T : Tbl) (wh : Wh) (n : Nat) : Nat → FT
  | 0 => fun _ _ _ => none
  | k + 1 => fun x rs st => (T.dfs.lookup x).bind fun d => runDf wh (T.F wh n k) T.gl n d rs st
def Tbl.fa (T : Tbl) : List He.Fa := T.dfs.map (fun p => .glo p.1) ++ (T.csts.map (fun p => cstFa p.1 p.2) ++ T.blts.map .free)
def toD (p : Str × Df) : He.DefD := ⟨(p.1, none), p.1, p.1, defArgs p.2.st, defBody p.2.st, defScope p.2.st, [], []⟩
def Tbl.fn (T : Tbl) : List He.DefD := T.dfs.map toD
theorem lookup_at {β : Type} : ∀ {l : List (Str × β)} {x : Str} {d : β}, l.lookup x = some d → ∃ i : Nat, l[i]? = some (x, d)
  | (y, e) :: l, x, d, h => by
    rw [List.lookup_cons] at h
    by_cases q : x == y
    · rw [q] at h; cases h; exact ⟨0, by rw [eq_of_beq q]; rfl⟩
    · simp only [q] at h
      obtain ⟨i, hi⟩ := lookup_at h
      exact ⟨i + 1, by simpa using hi⟩
section
variable {T : Tbl} {wh : Wh} {P : Program} {w : World} {K : PySem.W.Frag} {mg : Str → Option Value} {base h : Heap}
theorem fact_of (c : He.SaysD T.fa T.fn K) {f : He.Fa} (hf : f ∈ T.fa) : f.ok K = true := by
  obtain ⟨i, hi⟩ := List.getElem?_of_mem hf
  exact c.fact i hi
theorem Tbl.glb1 (hw : WhOk wh) (hok : ∀ p ∈ T.dfs, DefOk p.2) (c : He.SaysD T.fa T.fn K) (X : K.In h) (G : h.Ns mainGlobals mg) (n k : Nat) (prev : ∀ j, k = j + 1 → Glb P w K mg base T.gl (T.F wh n j) j) : Glb P w K mg base T.gl (T.F wh n k) k := {
    blt := fun x e => by
      unfold Tbl.gl at e
      split at e
      · cases e
      · split at e
        · cases e
        · split at e
          · rename_i hm
            exact He.free_ok X G (fact_of c (f := .free x) (by unfold Tbl.fa; simp [hm]))
          · cases e
    cst := fun x d e => by
      unfold Tbl.gl at e
      split at e
      · cases e
      · split at e
        · rename_i cc ec
          cases e
          obtain ⟨i, hi⟩ := lookup_at ec
          have hm : cstFa x cc ∈ T.fa := by
            unfold Tbl.fa
            simp only [List.mem_append, List.mem_map]
            exact .inr (.inl ⟨(x, cc), List.mem_of_getElem? hi, rfl⟩)
          have f := fact_of c hm
          cases cc with
          | inl j => obtain ⟨t, ht⟩ := He.int_ok X G f; exact ⟨.int j, _, ht, ⟨t, rfl⟩, fun _ => .int j⟩
          | inr z => obtain ⟨t, ht⟩ := He.str_ok X G f; exact ⟨.str z, _, ht, ⟨t, rfl⟩, fun _ => .str z⟩
        · split at e <;> cases e
    fn := fun x e => by
      unfold Tbl.gl at e
      split at e
      · rename_i d ed
        obtain ⟨i, hi⟩ := lookup_at ed
        have hm := List.mem_of_getElem? hi
        have g := He.glo_ok X G (fact_of c (f := .glo x) (by unfold Tbl.fa; simp only [List.mem_append, List.mem_map]; exact .inl ⟨(x, d), hm, rfl⟩))
        obtain ⟨fd, U⟩ := c.def_ i (d := toD (x, d)) (by unfold Tbl.fn; rw [List.getElem?_map, hi]; rfl)
        have U : FunD K x x (defArgs d.st) (defBody d.st) (defScope d.st) [] [] (He.ga K x) fd := U
        have ok := hok _ hm
        have b : Binds K fd d.ps [] := U.bindsN fun kV doc pm an cdv ct us hl => ok.bi x kV doc pm an cdv ct us hl
        refine ⟨He.ga K x, fd, d.ps, g, U.kp, b, ?_, ?_⟩
        · cases k with
          | zero =>
            refine ⟨fun vs H Q E z => z.1, fun A outer s H args us vs Q E hr he hb hv z => ?_⟩
            obtain ⟨_, β, Oo, rs, st, r, st', _, _, _, _, z, _⟩ := z
            cases z
          | succ k =>
            have o := df_ok hw (prev k rfl) (P := P) (w := w) (base := base) n U ok.sc
            refine o.imp fun vs H Q E z => ?_
            have e : T.F wh n (k + 1) x = runDf wh (T.F wh n k) T.gl n d := by
              funext rs st
              show (T.dfs.lookup x).bind _ = _
              rw [ed]; rfl
            rw [e] at z
            exact z
        · intro rs st r z
          cases k with
          | zero => cases z
          | succ k =>
            have z : (T.dfs.lookup x).bind (fun d => runDf wh (T.F wh n k) T.gl n d rs st) = some r := z
            rw [ed] at z
            simp only [Option.bind_some] at z
            unfold runDf at z
            split at z
            · rename_i q; exact q
            · cases z
      · split at e
        · cases e
        · split at e <;> cases e }
theorem Tbl.glb (hw : WhOk wh) (hok : ∀ p ∈ T.dfs, DefOk p.2) (c : He.SaysD T.fa T.fn K) (X : K.In h) (G : h.Ns mainGlobals mg) (n : Nat) : ∀ k, Glb P w K mg base T.gl (T.F wh n k) k
  | 0 => Tbl.glb1 hw hok c X G n 0 (fun j z => by omega)
  | k + 1 => Tbl.glb1 hw hok c X G n (k + 1) (fun j z => by
    have e : k = j := by omega
    subst e
    exact Tbl.glb hw hok c X G n k)
/-- the law's own promise, from what the evaluator says of every script -/
def spL (K : PySem.W.Frag) (m : Nat) : Sp := fun vs H Q _ => ∃ (a : Addr) (ns : List Int), vs = [.ref a] ∧ ScAt K none H a ns ∧ ns.length ≤ m ∧ ∀ H', Q (.bl true) H'
theorem Tbl.law (hw : WhOk wh) (hok : ∀ p ∈ T.dfs, DefOk p.2) (c : He.SaysD T.fa T.fn K) (X : K.In h) (G : h.Ns mainGlobals mg) (n k m : Nat) {f : Addr} (hfa : mg ("law" : Str) = some (.ref f)) {d : Df} (hl : T.dfs.lookup ("law" : Str) = some d) (hps : d.ps = [("script" : Str)])
    (ans : ∀ ns : List Int, ns.length ≤ m → T.F wh n k ("law" : Str) [.scr ns] none = some (.fz (.bool true), none)) :
    ∃ fd : FuncData, (∀ (s : Shared) (v : Value), BindsTo s fd ⟨[v], []⟩ [("script", v)]) ∧ ∀ base : Heap, K.In base → base.Ns mainGlobals mg → FnOk P w K mg base CX0 k f fd ["script"] (spL K m) := by
  have ex : ∃ fd, FunD K "law" "law" (defArgs d.st) (defBody d.st) (defScope d.st) [] [] (He.ga K "law") fd := by
    obtain ⟨i, hi⟩ := lookup_at hl
    exact c.def_ i (d := toD ("law", d)) (by unfold Tbl.fn; rw [List.getElem?_map, hi]; rfl)
  obtain ⟨i, hi⟩ := lookup_at hl
  have hm := List.mem_of_getElem? hi
  have g := He.glo_ok X G (fact_of c (f := .glo "law") (by unfold Tbl.fa; simp only [List.mem_append, List.mem_map]; exact .inl ⟨("law", d), hm, rfl⟩))
  have ef := hfa.symm.trans g
  cases ef
  obtain ⟨fd, U⟩ := ex
  have ok := hok _ hm
  have bA := U.bindsA (ps := d.ps) fun kV doc pm an cdv ct us hl => ok.bi "law" kV doc pm an cdv ct us hl
  refine ⟨fd, fun s v => by have := bA s [v] (by rw [hps]; rfl); rw [hps] at this; exact this, fun base _ _ => ?_⟩
  cases k with
  | zero => exact absurd (ans [] (Nat.zero_le _)) (fun z => by cases z)
  | succ k =>
    have o := df_ok hw (Tbl.glb hw hok c X G n k) (P := P) (w := w) (base := base) n U ok.sc
    rw [← hps]
    refine o.imp fun vs H Q E z => ?_
    obtain ⟨a, ns, rfl, hS, hlen, q⟩ := z
    refine ⟨by rw [hps]; rfl, none, fun _ => False, [.scr ns], none, .fz (.bool true), none, .cons ⟨(fun _ z => by cases z), a, rfl, hS⟩ .nil, (fun _ z => by cases z), (fun _ z => z.elim), rfl, ?_, fun v H' _ _ r => ?_⟩
    · have e := ans ns hlen
      have e' : (T.dfs.lookup ("law" : Str)).bind (fun d => runDf wh (T.F wh n k) T.gl n d [.scr ns] none) = some (.fz (.bool true), none) := e
      rw [hl] at e'
      exact e'
    · cases r
      exact q H'
theorem sc_of {K : PySem.W.Frag} {H : Hp} {a : Addr} {ns : List Int} (hO : Only H) (h : SqL K H a (ns.map V.int)) : ScAt K none H a ns := by
  rcases h with (h | ⟨o, h⟩) | h
  · rcases hO a with z | ⟨o, xs, z⟩
    · rw [z] at h; cases h
    · rw [z] at h; cases h
  · exact .inl ⟨(fun z => by cases z), o, h⟩
  · exact .inr fun H' => .inr h
end
end Iv

set_option maxHeartbeats 4000000
namespace Iv
open PySem PySem.Spec PyProof.Rows L2
/-! ### the evaluator's terms in short: what a def comes to -/
def vE (i : Nat) (env : Env') (st : BSt) : Option (R × BSt) := match env[i]? with
  | some (some (.fz d)) => some (.fz d, st)
  | some (some .bag) => some (.bag, st)
  | some (some (.scr ns)) => some (.scr ns, st)
  | _ => none
def vV (i : Nat) (env : Env') (st : BSt) : Option (D × BSt) := match env[i]? with
  | some (some (.fz d)) => some (d, st)
  | some (some (.ow d)) => some (d, st)
  | _ => none
def kE (d : D) (_ : Env') (st : BSt) : Option (R × BSt) := some (.fz d, st)
def kV' (d : D) (_ : Env') (st : BSt) : Option (D × BSt) := some (d, st)
def ixS (i : Nat) (g : VF) (env : Env') (st : BSt) : Option (R × BSt) := match env[i]? with
  | some (some .bag) => (g env st).bind fun p => (match p.2, p.1 with
    | some b, .int 0 => some (.fz (.int b.1), p.2)
    | some b, .int 1 => some (.fz (.int b.2), p.2)
    | _, _ => none)
  | some (some (.scr ns)) => (g env st).bind fun p => (match p.1 with
    | .int i => (atI ns i).map fun n => (.fz (.int n), p.2)
    | _ => none)
  | _ => none
def lenS (i : Nat) (env : Env') (st : BSt) : Option (R × BSt) := match env[i]? with
  | some (some (.scr ns)) => some (.fz (.int ns.length), st)
  | _ => none
def appS (i : Nat) (f : EF) (env : Env') (st : BSt) : Option (Out × Env' × BSt) := (f env st).bind fun p => p.1.d?.bind fun d => (match env[i]? with
    | some (some (.ow (.list ds))) => if decide (ds.length < sizeLine) then some (.nx, env.set i (some (.ow (.list (ds ++ [d])))), p.2) else none
    | _ => none)
def setS (i : Nat) (f : EF) (g : VF) (env : Env') (st : BSt) : Option (Out × Env' × BSt) := (f env st).bind fun p => p.1.d?.bind fun d => (g env p.2).bind fun q => (match env[i]? with
    | some (some (.ow (.list ds))) => (match q.1 with
      | .int k => (ixN ds.length k).map fun j => (.nx, env.set i (some (.ow (.list (ds.set j d)))), q.2)
      | _ => none)
    | some (some (.ow (.dict kds))) => (keyOf q.1).bind fun k => if decide (kds.length < sizeLine) then some (.nx, env.set i (some (.ow (.dict (putD kds k d)))), q.2) else none
    | some (some .bag) => (match q.2, q.1, d with
      | some b, .int 0, .int n => some (.nx, env, some (n, b.2))
      | some b, .int 1, .int n => some (.nx, env, some (b.1, n))
      | _, _, _ => none)
    | _ => none)
def retS (i : Nat) (f : SF) (env : Env') (st : BSt) : Option (Out × Env' × BSt) := match env[i]? with
    | some (some (.ow d)) => some (.rt (.ow d), env, st)
    | _ => f env st
def swS (n : Nat) (f : EF) (g1 g2 : VF) (env : Env') (st : BSt) : Option (Out × Env' × BSt) := (f env st).bind fun p => (match p.1.d? with
    | some (.tuple [d1, d2]) => (g1 env p.2).bind fun q1 => (match env[n]? with
      | some (some (.ow (.list ds))) => (match q1.1 with
        | .int k1 => (ixN ds.length k1).bind fun j1 => (g2 (env.set n (some (.ow (.list (ds.set j1 d1))))) q1.2).bind fun q2 => (match q2.1 with
          | .int k2 => (ixN ds.length k2).map fun j2 => (.nx, env.set n (some (.ow (.list ((ds.set j1 d1).set j2 d2)))), q2.2)
          | _ => none)
        | _ => none)
      | _ => none)
    | _ => none)
def runM (m n : Nat) (f : SF) (rs : List R) (st : BSt) : Option (R × BSt) :=
  if rs.length = m then (f (rs.map some ++ List.replicate (n - rs.length) none) st).bind fun p => (match p.1 with
      | .rt r => some (r, p.2.2)
      | .nx => some (.fz .none, p.2.2)
      | _ => none)
  else none
end Iv

set_option maxHeartbeats 4000000
namespace Iv
open PySem PySem.Spec PyProof.Rows L2
/-! ### what comes out, told by what is wanted of it -/
def wp {α : Type} (o : Option α) (Q : α → Prop) : Prop := ∃ a, o = some a ∧ Q a
section
variable {α β : Type}
theorem wp_some {a : α} {Q : α → Prop} : wp (some a) Q ↔ Q a := ⟨fun ⟨_, h, q⟩ => (by cases h; exact q), fun q => ⟨a, rfl, q⟩⟩
theorem wp_none {Q : α → Prop} : wp none Q ↔ False := ⟨fun ⟨_, h, _⟩ => (by cases h), fun h => h.elim⟩
theorem wp_bind {o : Option α} {f : α → Option β} {Q : β → Prop} : wp (o.bind f) Q ↔ wp o fun a => wp (f a) Q := by
  cases o with
  | none => exact ⟨fun ⟨_, h, _⟩ => (by cases h), fun ⟨_, h, _⟩ => (by cases h)⟩
  | some a => exact ⟨fun h => ⟨a, rfl, h⟩, fun ⟨b, h, q⟩ => (by cases h; exact q)⟩
theorem wp_map {o : Option α} {f : α → β} {Q : β → Prop} : wp (o.map f) Q ↔ wp o fun a => Q (f a) := by
  cases o with
  | none => exact ⟨fun ⟨_, h, _⟩ => (by cases h), fun ⟨_, h, _⟩ => (by cases h)⟩
  | some a => exact ⟨fun ⟨_, h, q⟩ => ⟨a, rfl, (by cases h; exact q)⟩, fun ⟨b, h, q⟩ => by cases h; exact ⟨_, rfl, q⟩⟩
theorem wp_mono {o : Option α} {P Q : α → Prop} (h : wp o P) (q : ∀ a, P a → Q a) : wp o Q := let ⟨a, e, p⟩ := h; ⟨a, e, q a p⟩
theorem wp_eq {o : Option α} {Q : α → Prop} {a : α} (h : o = some a) (q : Q a) : wp o Q := ⟨a, h, q⟩
theorem wp_get {o : Option α} {a : α} (h : wp o fun b => b = a) : o = some a := by obtain ⟨b, e, rfl⟩ := h; exact e
theorem wp_if {c : Prop} [Decidable c] {a b : Option α} {Q : α → Prop} : wp (if c then a else b) Q ↔ (if c then wp a Q else wp b Q) := by split <;> exact Iff.rfl
end
/-! ### statements -/
theorem wp_seq {f g : SF} {env : Env'} {st : BSt} {Q : Out × Env' × BSt → Prop} (h : wp (f env st) fun p => match p.1 with | .nx => wp (g p.2.1 p.2.2) Q | o => Q (o, p.2)) : wp (seqS f g env st) Q := by
  obtain ⟨⟨o, env1, st1⟩, e, q⟩ := h
  unfold seqS
  rw [e]
  cases o with
  | nx => exact q
  | _ => exact ⟨_, rfl, q⟩
theorem wp_frz {is : List Nat} {f : SF} {env : Env'} {st : BSt} {Q : Out × Env' × BSt → Prop} : wp (frzS is f env st) Q ↔ wp (f (frzs is env) st) Q := Iff.rfl
theorem wp_ifs {c : TF} {f g : SF} {env : Env'} {st : BSt} {Q : Out × Env' × BSt → Prop} (h : wp (c env st) fun p => if p.1 then wp (f env p.2) Q else wp (g env p.2) Q) : wp (ifS c f g env st) Q := by
  obtain ⟨⟨b, s1⟩, e, q⟩ := h
  unfold ifS
  rw [e]
  cases b <;> exact q
theorem wp_run {m n : Nat} {f : SF} {rs : List R} {st : BSt} {Q : R × BSt → Prop} (hl : rs.length = m) (h : wp (f (rs.map some ++ List.replicate (n - rs.length) none) st) fun p => match p.1 with | .rt r => Q (r, p.2.2) | .nx => Q (.fz .none, p.2.2) | _ => False) : wp (runM m n f rs st) Q := by
  obtain ⟨⟨o, env1, st1⟩, e, q⟩ := h
  unfold runM
  rw [if_pos hl, e]
  cases o with
  | rt r => exact ⟨_, rfl, q⟩
  | nx => exact ⟨_, rfl, q⟩
  | _ => exact q.elim
/-- a loop that keeps something; it may end the def -/
theorem wp_forL {g : GF} {f : SF} {I : Nat → Env' → BSt → Prop} {Q : Out × Env' × BSt → Prop} : ∀ (ds : List D) (j : Nat) (env : Env') (st : BSt), I j env st →
    (∀ i d env st, ds[i]? = some d → I (j + i) env st → ∃ env1, g d env = some env1 ∧ wp (f env1 st) fun p => match p.1 with | .nx => I (j + i + 1) p.2.1 p.2.2 | .ct => I (j + i + 1) p.2.1 p.2.2 | .bk => Q (.nx, p.2) | .rt r => Q (.rt r, p.2)) →
    (∀ env st, I (j + ds.length) env st → Q (.nx, env, st)) → wp (forL g f ds env st) Q
  | [], j, env, st, h, _, q => ⟨_, rfl, q _ _ h⟩
  | d :: ds, j, env, st, h, hb, q => by
    obtain ⟨e1, h1, ⟨o, e2, s2⟩, h2, h3⟩ := hb 0 d env st rfl h
    have ih := fun (h : I (j + 1) e2 s2) => wp_forL ds (j + 1) e2 s2 (Q := Q) h (fun i d env st hd hI => by
      have := hb (i + 1) d env st (by simpa using hd) (by rw [show j + (i + 1) = j + 1 + i by omega]; exact hI)
      rw [show j + (i + 1) + 1 = j + 1 + i + 1 by omega] at this
      exact this) (fun env st hI => q env st (by rw [List.length_cons, show j + (ds.length + 1) = j + 1 + ds.length by omega]; exact hI))
    unfold forL
    simp only [h1, Option.bind_some, h2]
    cases o with
    | nx => exact ih h3
    | ct => exact ih h3
    | bk => exact ⟨_, rfl, h3⟩
    | rt r => exact ⟨_, rfl, h3⟩
theorem wp_for {i : IF} {g : GF} {f : SF} {env : Env'} {st : BSt} {I : Nat → Env' → BSt → Prop} {Q : Out × Env' × BSt → Prop} {ds : List D} {st1 : BSt} (hi : i env st = some (ds, st1)) (h0 : I 0 env st1)
    (hb : ∀ i d env st, ds[i]? = some d → I i env st → ∃ env1, g d env = some env1 ∧ wp (f env1 st) fun p => match p.1 with | .nx => I (i + 1) p.2.1 p.2.2 | .ct => I (i + 1) p.2.1 p.2.2 | .bk => Q (.nx, p.2) | .rt r => Q (.rt r, p.2))
    (q : ∀ env st, I ds.length env st → Q (.nx, env, st)) : wp (forF i g f env st) Q := by
  unfold forF
  rw [hi]
  exact wp_forL ds 0 env st1 h0 (fun i d env st hd hI => by
    rw [Nat.zero_add] at hI ⊢
    exact hb i d env st hd hI) (fun env st hI => q env st (by rw [Nat.zero_add] at hI; exact hI))
/-- a comprehension that keeps something -/
theorem wp_lcL {g : GF} {t : TF} {e : EF} {env0 : Env'} {I : Nat → List D → BSt → Prop} {Q : List D × BSt → Prop} : ∀ (ds : List D) (j : Nat) (acc : List D) (st : BSt), I j acc st → acc.length + ds.length ≤ sizeLine →
    (∀ i d acc st, ds[i]? = some d → I (j + i) acc st → ∃ env1, g d env0 = some env1 ∧ wp (t env1 st) fun p => if p.1 then wp (e env1 p.2) fun q => ∃ x, q.1.d? = some x ∧ I (j + i + 1) (acc ++ [x]) q.2 else I (j + i + 1) acc p.2) →
    (∀ acc st, I (j + ds.length) acc st → Q (acc, st)) → wp (lcLoop g t e env0 ds acc st) Q
  | [], j, acc, st, h, _, _, q => ⟨_, rfl, q _ _ h⟩
  | d :: ds, j, acc, st, h, hl, hb, q => by
    obtain ⟨e1, h1, ⟨b, s1⟩, h2, h3⟩ := hb 0 d acc st rfl h
    have hl' : acc.length + (ds.length + 1) ≤ sizeLine := hl
    have ih := fun (acc' : List D) (s2 : BSt) (hl2 : acc'.length ≤ acc.length + 1) (h : I (j + 1) acc' s2) => wp_lcL ds (j + 1) acc' s2 (Q := Q) h (by omega) (fun i d acc st hd hI => by
      have := hb (i + 1) d acc st (by simpa using hd) (by rw [show j + (i + 1) = j + 1 + i by omega]; exact hI)
      rw [show j + (i + 1) + 1 = j + 1 + i + 1 by omega] at this
      exact this) (fun acc st hI => q acc st (by rw [List.length_cons, show j + (ds.length + 1) = j + 1 + ds.length by omega]; exact hI))
    unfold lcLoop
    simp only [h1, Option.bind_some, h2]
    cases b with
    | true =>
      obtain ⟨⟨r, s2⟩, h4, x, h5, h6⟩ := h3
      simp only [if_true, h4, Option.bind_some, h5]
      rw [if_pos (decide_eq_true (by omega))]
      exact ih _ _ (by simp) h6
    | false => exact ih _ _ (by omega) h3
theorem wp_lc {i : IF} {own : List Nat} {g : GF} {t : TF} {e : EF} {env : Env'} {st : BSt} {I : Nat → List D → BSt → Prop} {Q : R × BSt → Prop} {ds : List D} {st1 : BSt} (hi : i env st = some (ds, st1)) (hl : ds.length ≤ sizeLine) (h0 : I 0 [] st1)
    (hb : ∀ i d acc st, ds[i]? = some d → I i acc st → ∃ env1, g d (wipeE env own) = some env1 ∧ wp (t env1 st) fun p => if p.1 then wp (e env1 p.2) fun q => ∃ x, q.1.d? = some x ∧ I (i + 1) (acc ++ [x]) q.2 else I (i + 1) acc p.2)
    (q : ∀ acc st, I ds.length acc st → Q (.ow (.list acc), st)) : wp (lcF i own g t e env st) Q := by
  unfold lcF
  rw [hi]
  simp only [Option.bind_some]
  rw [wp_map]
  exact wp_lcL ds 0 [] st1 h0 (by simpa using hl) (fun i d acc st hd hI => by
    rw [Nat.zero_add] at hI ⊢
    exact hb i d acc st hd hI) (fun acc st hI => q acc st (by rw [Nat.zero_add] at hI; exact hI))
theorem ar_nil' (env : Env') (st : BSt) : argsF [] env st = some ([], st) := rfl
theorem ar_cons' (f : EF) (fs : List EF) (env : Env') (st : BSt) : argsF (f :: fs) env st = (f env st).bind fun p => (argsF fs env p.2).map fun q => (p.1.down :: q.1, q.2) := rfl
theorem ds_nil : dsOf [] = some [] := rfl
theorem ds_fz (d : D) (rs : List R) : dsOf (.fz d :: rs) = (dsOf rs).map (d :: ·) := by
  simp only [dsOf]
theorem lenOk_of {n : Nat} (h : n ≤ 16777216) : lenOk n = true := decide_eq_true (by rw [sizeLine_eq]; exact h)
theorem range_i {f : VF} {env : Env'} {st st1 : BSt} {n : Int} (hf : f env st = some (.int n, st1)) (h0 : 0 ≤ n) (h1 : n < 1000000) : rangeF f env st = some (rangeD n.toNat, st1) := by
  unfold rangeF
  rw [hf]
  simp only [Option.bind_some]
  rw [if_pos]
  rw [Bool.and_eq_true]
  exact ⟨decide_eq_true (by omega), decide_eq_true (by omega)⟩
theorem range_get {n i : Nat} {d : D} (h : (rangeD n)[i]? = some d) : d = .int (i : Nat) ∧ i < n := by
  unfold rangeD at h
  rw [List.getElem?_map] at h
  obtain ⟨j, h1, h2⟩ := map1 h
  have := List.getElem?_eq_some_iff.mp h1
  obtain ⟨h3, h4⟩ := this
  rw [List.getElem_range] at h4
  rw [List.length_range] at h3
  subst h4
  exact ⟨h2.symm, h3⟩
theorem wp_fl {g : GF} {f : SF} {env : Env'} {st : BSt} {ds : List D} {Q : Out × Env' × BSt → Prop} (I : Nat → Env' → BSt → Prop) (h0 : I 0 env st)
    (hb : ∀ i d env st, ds[i]? = some d → I i env st → ∃ env1, g d env = some env1 ∧ wp (f env1 st) fun p => match p.1 with | .nx => I (i + 1) p.2.1 p.2.2 | .ct => I (i + 1) p.2.1 p.2.2 | .bk => Q (.nx, p.2) | .rt r => Q (.rt r, p.2))
    (q : ∀ env st, I ds.length env st → Q (.nx, env, st)) : wp (forL g f ds env st) Q :=
  wp_forL ds 0 env st h0 (fun i d env st hd hI => by
    rw [Nat.zero_add] at hI ⊢
    exact hb i d env st hd hI) (fun env st hI => q env st (by rw [Nat.zero_add] at hI; exact hI))
theorem wp_forI {i : IF} {g : GF} {f : SF} {env : Env'} {st : BSt} {Q : Out × Env' × BSt → Prop} (h : wp (i env st) fun p => wp (forL g f p.1 env p.2) Q) : wp (forF i g f env st) Q := by
  unfold forF; rw [wp_bind]; exact h
theorem wp_lcI {i : IF} {own : List Nat} {g : GF} {t : TF} {e : EF} {env : Env'} {st : BSt} {Q : R × BSt → Prop} (h : wp (i env st) fun p => wp (lcLoop g t e (wipeE env own) p.1 [] p.2) fun q => Q (.ow (.list q.1), q.2)) : wp (lcF i own g t e env st) Q := by
  unfold lcF; rw [wp_bind]; exact wp_mono h fun p hp => by rw [wp_map]; exact hp
theorem wp_ll {g : GF} {t : TF} {e : EF} {env0 : Env'} {st : BSt} {ds : List D} {Q : List D × BSt → Prop} (I : Nat → List D → BSt → Prop) (h0 : I 0 [] st) (hl : ds.length ≤ 16777216)
    (hb : ∀ i d acc st, ds[i]? = some d → I i acc st → ∃ env1, g d env0 = some env1 ∧ wp (t env1 st) fun p => if p.1 then wp (e env1 p.2) fun q => ∃ x, q.1.d? = some x ∧ I (i + 1) (acc ++ [x]) q.2 else I (i + 1) acc p.2)
    (q : ∀ acc st, I ds.length acc st → Q (acc, st)) : wp (lcLoop g t e env0 ds [] st) Q :=
  wp_lcL ds 0 [] st h0 (by rw [sizeLine_eq]; simpa using hl) (fun i d acc st hd hI => by
    rw [Nat.zero_add] at hI ⊢
    exact hb i d acc st hd hI) (fun acc st hI => q acc st (by rw [Nat.zero_add] at hI; exact hI))
theorem wp_range {f : VF} {env : Env'} {st : BSt} {Q : List D × BSt → Prop} (h : wp (f env st) fun p => ∃ n : Int, p.1 = .int n ∧ 0 ≤ n ∧ n < 1000000 ∧ Q (rangeD n.toNat, p.2)) : wp (rangeF f env st) Q := by
  obtain ⟨⟨d, s1⟩, e, n, rfl, h0, h1, q⟩ := h
  exact ⟨_, range_i e h0 h1, q⟩
theorem range_len (n : Nat) : (rangeD n).length = n := by simp [rangeD]
end Iv

set_option maxHeartbeats 4000000
namespace Iv
open PySem PySem.Spec PyProof.Rows L2
/-! ### the bag's block, told by what is wanted of it -/
theorem frz1_len (i : Nat) (env : Env') : (frz1 i env).length = env.length := by
  unfold frz1
  split
  · rw [List.length_set]
  · rfl
theorem frzs_len : ∀ (is : List Nat) (env : Env'), (frzs is env).length = env.length
  | [], _ => rfl
  | i :: is, env => by
    show (frzs is (frz1 i env)).length = _
    rw [frzs_len is, frz1_len]
theorem frz1_get (i j : Nat) (env : Env') : (frz1 i env)[j]? = if i = j then (match env[j]? with | some (some (.ow d)) => some (some (.fz d)) | x => x) else env[j]? := by
  unfold frz1
  split
  · rename_i d e
    by_cases h : i = j
    · subst h
      rw [if_pos rfl, e, List.getElem?_set_self ((List.getElem?_eq_some_iff.mp e).1)]
    · rw [if_neg h, List.getElem?_set_ne h]
  · rename_i h0
    by_cases h : i = j
    · subst h
      rw [if_pos rfl]
      split
      · rename_i d e; exact absurd e (h0 d)
      · rfl
    · rw [if_neg h]
def frzO : Option (Option R) → Option (Option R)
  | some (some (.ow d)) => some (some (.fz d))
  | x => x
theorem frzO_idem (x : Option (Option R)) : frzO (frzO x) = frzO x := by
  rcases x with _ | _ | r
  · rfl
  · rfl
  · cases r <;> rfl
theorem frz1_get' (i j : Nat) (env : Env') : (frz1 i env)[j]? = if i = j then frzO env[j]? else env[j]? := by
  rw [frz1_get]
  split
  · rcases env[j]? with _ | _ | r
    · rfl
    · rfl
    · cases r <;> rfl
  · rfl
theorem frzs_get : ∀ (is : List Nat) (env : Env') (j : Nat), (frzs is env)[j]? = if j ∈ is then frzO env[j]? else env[j]?
  | [], _, _ => by simp [frzs]
  | i :: is, env, j => by
    show (frzs is (frz1 i env))[j]? = _
    rw [frzs_get is, frz1_get']
    by_cases h : i = j
    · subst h
      simp only [if_pos, List.mem_cons_self]
      split
      · exact frzO_idem _
      · rfl
    · rw [if_neg h]
      have : (j ∈ i :: is) ↔ j ∈ is := by
        rw [List.mem_cons]
        exact ⟨fun z => z.elim (fun z => absurd z.symm h) id, .inr⟩
      simp only [this]
theorem frzAll_get (env : Env') (j : Nat) : (frzAll env)[j]? = frzO env[j]? := by
  unfold frzAll
  rw [frzs_get]
  split
  · rfl
  · rename_i h
    rw [List.mem_range] at h
    rw [List.getElem?_eq_none (by omega)]; rfl
theorem frzAll_len (env : Env') : (frzAll env).length = env.length := frzs_len _ _
theorem noOw_frzAll (env : Env') : noOw (frzAll env) = true := by
  unfold noOw
  rw [List.all_eq_true]
  intro x hx
  obtain ⟨j, hj⟩ := List.getElem?_of_mem hx
  rw [frzAll_get] at hj
  rcases e : env[j]? with _ | _ | r
  · rw [e] at hj; cases hj
  · rw [e] at hj; cases hj; rfl
  · rw [e] at hj
    cases r <;> cases hj <;> rfl
theorem frzAll_id {env : Env'} (h : noOw env = true) : frzAll env = env := by
  refine List.ext_getElem? fun j => ?_
  rw [frzAll_get]
  rcases e : env[j]? with _ | _ | r
  · rfl
  · rfl
  · cases r with
    | ow d => exact (noOw_ok h e).elim
    | _ => rfl
/-- what is kept from cell to cell: the script in its slot, no list of one's own, no bag -/
structure Cell (ns : List Int) (m : Nat) (env : Env') : Prop where
  len : env.length = m
  scr : env[0]? = some (some (.scr ns))
  ow : noOw env = true
  bag : env.all noBagS = true
theorem Cell.set {ns : List Int} {m : Nat} {env : Env'} (h : Cell ns m env) {i : Nat} (hi : i ≠ 0) (d : D) : Cell ns m (env.set i (some (.fz d))) := by
  refine ⟨by rw [List.length_set]; exact h.len, by rw [List.getElem?_set_ne hi]; exact h.scr, ?_, ?_⟩
  · unfold noOw
    rw [List.all_eq_true]
    intro x hx
    rcases List.mem_or_eq_of_mem_set hx with hx | rfl
    · exact List.all_eq_true.mp h.ow x hx
    · rfl
  · rw [List.all_eq_true]
    intro x hx
    rcases List.mem_or_eq_of_mem_set hx with hx | rfl
    · exact List.all_eq_true.mp h.bag x hx
    · rfl
theorem cell_after {ns : List Int} {m : Nat} {env : Env'} (hl : env.length = m) (h0 : env[0]? = some (some (.scr ns))) : Cell ns m ((frzAll env).map unbag) := by
  refine ⟨by rw [List.length_map, frzAll_len]; exact hl, by rw [List.getElem?_map, frzAll_get, h0]; rfl, ?_, ?_⟩
  · unfold noOw
    rw [List.all_map, List.all_eq_true]
    intro x hx
    have := List.all_eq_true.mp (noOw_frzAll env) x hx
    rcases x with _ | r
    · rfl
    · cases r <;> first | rfl | exact this
  · rw [List.all_map, List.all_eq_true]
    intro x hx
    rcases x with _ | r
    · rfl
    · cases r <;> rfl
theorem wp_bag {ns : List Int} {m i : Nat} {f : EF} {g : SF} {env : Env'} {a b : Int} {Q : Out × Env' × BSt → Prop} (C : Cell ns m env) (hf : f env none = some (.ow (.list [.int a, .int b]), none))
    (hg : wp (g (env.set i (some .bag)) (some (a, b))) fun q => q.1 = .nx ∧ q.2.1.length = m ∧ q.2.1[0]? = some (some (.scr ns))) (q : ∀ env, Cell ns m env → Q (.nx, env, none)) : wp (bagF i f g env none) Q := by
  obtain ⟨⟨o, e1, s1⟩, e, ho, hl, h0⟩ := hg
  have ho : o = .nx := ho
  subst ho
  refine ⟨(.nx, (frzAll e1).map unbag, none), ?_, q _ (cell_after hl h0)⟩
  have id1 := frzAll_id C.ow
  unfold bagF
  simp only [id1, C.ow, C.bag, Bool.and_self, if_true]
  rw [hf]
  simp only [Option.bind_some]
  rw [e]
  simp only [Option.bind_some]
  rw [noOw_frzAll]
  rfl
end Iv

set_option maxHeartbeats 0
namespace K01
open PySem PySem.Spec PyProof.Rows L2 Iv
def topS (i : Nat) : Stmt := PySem.Challenge.pw_holetubs_k01_tubs_weather_beginnings_tol.main.body.getD i (.Pass ⟨0, 0, 0, 0⟩)
def d_is_whole : Df := ⟨topS 1, ["thing"], ["thing"]⟩
def d_is_whole_within : Df := ⟨topS 2, ["thing", "least", "greatest"], ["thing", "least", "greatest"]⟩
def d_common_divisor : Df := ⟨topS 3, ["one", "other"], ["one", "other"]⟩
def d_is_fraction : Df := ⟨topS 4, ["thing", "top", "bottom"], ["thing"]⟩
def d_is_tuple_of : Df := ⟨topS 17, ["thing", "least", "most"], ["thing", "least", "most"]⟩
def d_is_rising : Df := ⟨topS 18, ["numbers", "one", "other"], ["numbers"]⟩
def d_is_name : Df := ⟨topS 19, ["thing", "letter"], ["thing"]⟩
def d_is_way : Df := ⟨topS 20, ["thing"], ["thing"]⟩
def d_is_hole : Df := ⟨topS 21, ["thing", "height", "rate", "into"], ["thing"]⟩
def d_are_holes : Df := ⟨topS 22, ["thing", "part", "height", "rate", "into"], ["thing"]⟩
def d_is_tub : Df := ⟨topS 23, ["thing", "name", "ground", "holes"], ["thing"]⟩
def d_names_of : Df := ⟨topS 24, ["tubs", "name", "ground", "holes"], ["tubs"]⟩
def d_fits_among : Df := ⟨topS 25, ["tub", "ahead", "behind", "name", "ground", "holes", "height", "rate", "into"], ["tub", "ahead", "behind"]⟩
def d_are_tubs : Df := ⟨topS 26, ["thing", "part", "names", "at", "tub"], ["thing"]⟩
def d_is_rain : Df := ⟨topS 27, ["tubs", "thing", "part"], ["tubs", "thing"]⟩
def d_is_weather_row : Df := ⟨topS 28, ["tubs", "thing", "hour", "rain"], ["tubs", "thing"]⟩
def d_is_weather : Df := ⟨topS 29, ["tubs", "thing", "part", "hours", "hour", "rain"], ["tubs", "thing"]⟩
def d_is_beginning : Df := ⟨topS 30, ["tubs", "thing", "part"], ["tubs", "thing"]⟩
def d__law_bag : Df := ⟨topS 32, ["script", "k", "cell"], ["script", "k"]⟩
def d__law_take : Df := ⟨topS 33, ["bag", "many", "found"], ["bag", "many"]⟩
def d__law_of : Df := ⟨topS 34, ["bag", "some"], ["bag", "some"]⟩
def d__law_whole : Df := ⟨topS 35, ["thing"], ["thing"]⟩
def d__law_within : Df := ⟨topS 36, ["thing", "least", "most"], ["thing", "least", "most"]⟩
def d__law_is_name : Df := ⟨topS 37, ["thing", "sign"], ["thing"]⟩
def d__law_spoilt : Df := ⟨topS 38, ["bag", "thing", "kind_so", "rows", "at", "other"], ["bag", "thing"]⟩
def d__law_odd : Df := ⟨topS 39, ["bag", "some"], ["bag"]⟩
def d__law_lowest : Df := ⟨topS 40, ["top", "bottom", "one", "other"], ["top", "bottom"]⟩
def d__law_part : Df := ⟨topS 41, ["bag", "wide"], ["bag", "wide"]⟩
def d__law_tubs : Df := ⟨topS 42, ["bag", "most", "names", "found", "at", "name", "levels", "wide", "turn", "holes", "level", "rate"], ["bag", "most"]⟩
def d__law_rain : Df := ⟨topS 43, ["bag", "tubs", "found", "name", "ground", "holes", "sums", "total", "hole"], ["bag", "tubs"]⟩
def d__law_weather : Df := ⟨topS 44, ["bag", "tubs", "hours", "turn", "hour"], ["bag", "tubs"]⟩
def d__law_beginning : Df := ⟨topS 45, ["bag", "tubs", "found", "name", "ground", "holes", "some", "hole"], ["bag", "tubs"]⟩
def d__law_is_hole : Df := ⟨topS 46, ["thing", "later"], ["thing", "later"]⟩
def d__law_are_tubs : Df := ⟨topS 47, ["thing", "names", "tub", "at", "hole", "levels"], ["thing"]⟩
def d__law_is_rain : Df := ⟨topS 48, ["tubs_so", "thing", "rate"], ["tubs_so", "thing"]⟩
def d__law_is_weather : Df := ⟨topS 49, ["tubs_so", "thing", "row", "hours"], ["tubs_so", "thing"]⟩
def d__law_is_beginning : Df := ⟨topS 50, ["tubs_so", "thing", "part"], ["tubs_so", "thing"]⟩
def d_law : Df := ⟨topS 51, ["script", "k", "bag", "base", "one", "two", "three", "hole", "edge", "four", "name", "some", "thing", "turn", "told", "said"], ["script"]⟩
def dfs0 : List (Str × Df) := [(("is_whole" : Str), d_is_whole), (("is_whole_within" : Str), d_is_whole_within), (("common_divisor" : Str), d_common_divisor), (("is_fraction" : Str), d_is_fraction), (("is_tuple_of" : Str), d_is_tuple_of), (("is_rising" : Str), d_is_rising), (("is_name" : Str), d_is_name), (("is_way" : Str), d_is_way)]
def dfs1 : List (Str × Df) := [(("is_hole" : Str), d_is_hole), (("are_holes" : Str), d_are_holes), (("is_tub" : Str), d_is_tub), (("names_of" : Str), d_names_of), (("fits_among" : Str), d_fits_among), (("are_tubs" : Str), d_are_tubs), (("is_rain" : Str), d_is_rain), (("is_weather_row" : Str), d_is_weather_row)]
def dfs2 : List (Str × Df) := [(("is_weather" : Str), d_is_weather), (("is_beginning" : Str), d_is_beginning), (("_law_bag" : Str), d__law_bag), (("_law_take" : Str), d__law_take), (("_law_of" : Str), d__law_of), (("_law_whole" : Str), d__law_whole), (("_law_within" : Str), d__law_within), (("_law_is_name" : Str), d__law_is_name)]
def dfs3 : List (Str × Df) := [(("_law_spoilt" : Str), d__law_spoilt), (("_law_odd" : Str), d__law_odd), (("_law_lowest" : Str), d__law_lowest), (("_law_part" : Str), d__law_part), (("_law_tubs" : Str), d__law_tubs), (("_law_rain" : Str), d__law_rain), (("_law_weather" : Str), d__law_weather), (("_law_beginning" : Str), d__law_beginning)]
def dfs4 : List (Str × Df) := [(("_law_is_hole" : Str), d__law_is_hole), (("_law_are_tubs" : Str), d__law_are_tubs), (("_law_is_rain" : Str), d__law_is_rain), (("_law_is_weather" : Str), d__law_is_weather), (("_law_is_beginning" : Str), d__law_is_beginning), (("law" : Str), d_law)]
def tbl : Tbl where
  dfs := dfs0 ++ dfs1 ++ dfs2 ++ dfs3 ++ dfs4
  csts := [(("LETTERS" : Str), .inr ("abcdefghijklmnopqrstuvwxyz" : Str)), (("LONGEST_NAME" : Str), .inl 8), (("AWAY" : Str), .inr ("" : Str)), (("HIGHEST_HOLE" : Str), .inl 1000), (("GREATEST_RATE" : Str), .inl 100), (("GREATEST_GROUND" : Str), .inl 1000), (("MOST_HOLES" : Str), .inl 3), (("MOST_TUBS" : Str), .inl 3), (("MOST_ROWS" : Str), .inl 4), (("LAST_HOUR" : Str), .inl 1000), (("GREATEST_RAIN" : Str), .inl 1000)]
  blts := (["isinstance", "int", "bool", "tuple", "len", "all", "zip", "str"] : List Str) ++ (["enumerate", "abs", "list", "range", "sorted", "set", "min"] : List Str)
theorem k_is_whole : DefOk d_is_whole := ⟨⟨rfl, rfl, rfl, by decide +kernel, rfl, by decide +kernel, by decide +kernel⟩, fun _ _ _ _ _ _ _ us hl => match us, hl with | [_], _ => rfl⟩
theorem k_is_whole_within : DefOk d_is_whole_within := ⟨⟨rfl, rfl, rfl, by decide +kernel, rfl, by decide +kernel, by decide +kernel⟩, fun _ _ _ _ _ _ _ us hl => match us, hl with | [_, _, _], _ => rfl⟩
theorem k_common_divisor : DefOk d_common_divisor := ⟨⟨rfl, rfl, rfl, by decide +kernel, rfl, by decide +kernel, by decide +kernel⟩, fun _ _ _ _ _ _ _ us hl => match us, hl with | [_, _], _ => rfl⟩
theorem k_is_fraction : DefOk d_is_fraction := ⟨⟨rfl, rfl, rfl, by decide +kernel, rfl, by decide +kernel, by decide +kernel⟩, fun _ _ _ _ _ _ _ us hl => match us, hl with | [_], _ => rfl⟩
theorem k_is_tuple_of : DefOk d_is_tuple_of := ⟨⟨rfl, rfl, rfl, by decide +kernel, rfl, by decide +kernel, by decide +kernel⟩, fun _ _ _ _ _ _ _ us hl => match us, hl with | [_, _, _], _ => rfl⟩
theorem k_is_rising : DefOk d_is_rising := ⟨⟨rfl, rfl, rfl, by decide +kernel, rfl, by decide +kernel, by decide +kernel⟩, fun _ _ _ _ _ _ _ us hl => match us, hl with | [_], _ => rfl⟩
theorem k_is_name : DefOk d_is_name := ⟨⟨rfl, rfl, rfl, by decide +kernel, rfl, by decide +kernel, by decide +kernel⟩, fun _ _ _ _ _ _ _ us hl => match us, hl with | [_], _ => rfl⟩
theorem k_is_way : DefOk d_is_way := ⟨⟨rfl, rfl, rfl, by decide +kernel, rfl, by decide +kernel, by decide +kernel⟩, fun _ _ _ _ _ _ _ us hl => match us, hl with | [_], _ => rfl⟩
theorem k_is_hole : DefOk d_is_hole := ⟨⟨rfl, rfl, rfl, by decide +kernel, rfl, by decide +kernel, by decide +kernel⟩, fun _ _ _ _ _ _ _ us hl => match us, hl with | [_], _ => rfl⟩
theorem k_are_holes : DefOk d_are_holes := ⟨⟨rfl, rfl, rfl, by decide +kernel, rfl, by decide +kernel, by decide +kernel⟩, fun _ _ _ _ _ _ _ us hl => match us, hl with | [_], _ => rfl⟩
theorem k_is_tub : DefOk d_is_tub := ⟨⟨rfl, rfl, rfl, by decide +kernel, rfl, by decide +kernel, by decide +kernel⟩, fun _ _ _ _ _ _ _ us hl => match us, hl with | [_], _ => rfl⟩
theorem k_names_of : DefOk d_names_of := ⟨⟨rfl, rfl, rfl, by decide +kernel, rfl, by decide +kernel, by decide +kernel⟩, fun _ _ _ _ _ _ _ us hl => match us, hl with | [_], _ => rfl⟩
theorem k_fits_among : DefOk d_fits_among := ⟨⟨rfl, rfl, rfl, by decide +kernel, rfl, by decide +kernel, by decide +kernel⟩, fun _ _ _ _ _ _ _ us hl => match us, hl with | [_, _, _], _ => rfl⟩
theorem k_are_tubs : DefOk d_are_tubs := ⟨⟨rfl, rfl, rfl, by decide +kernel, rfl, by decide +kernel, by decide +kernel⟩, fun _ _ _ _ _ _ _ us hl => match us, hl with | [_], _ => rfl⟩
theorem k_is_rain : DefOk d_is_rain := ⟨⟨rfl, rfl, rfl, by decide +kernel, rfl, by decide +kernel, by decide +kernel⟩, fun _ _ _ _ _ _ _ us hl => match us, hl with | [_, _], _ => rfl⟩
theorem k_is_weather_row : DefOk d_is_weather_row := ⟨⟨rfl, rfl, rfl, by decide +kernel, rfl, by decide +kernel, by decide +kernel⟩, fun _ _ _ _ _ _ _ us hl => match us, hl with | [_, _], _ => rfl⟩
theorem k_is_weather : DefOk d_is_weather := ⟨⟨rfl, rfl, rfl, by decide +kernel, rfl, by decide +kernel, by decide +kernel⟩, fun _ _ _ _ _ _ _ us hl => match us, hl with | [_, _], _ => rfl⟩
theorem k_is_beginning : DefOk d_is_beginning := ⟨⟨rfl, rfl, rfl, by decide +kernel, rfl, by decide +kernel, by decide +kernel⟩, fun _ _ _ _ _ _ _ us hl => match us, hl with | [_, _], _ => rfl⟩
theorem k__law_bag : DefOk d__law_bag := ⟨⟨rfl, rfl, rfl, by decide +kernel, rfl, by decide +kernel, by decide +kernel⟩, fun _ _ _ _ _ _ _ us hl => match us, hl with | [_, _], _ => rfl⟩
theorem k__law_take : DefOk d__law_take := ⟨⟨rfl, rfl, rfl, by decide +kernel, rfl, by decide +kernel, by decide +kernel⟩, fun _ _ _ _ _ _ _ us hl => match us, hl with | [_, _], _ => rfl⟩
theorem k__law_of : DefOk d__law_of := ⟨⟨rfl, rfl, rfl, by decide +kernel, rfl, by decide +kernel, by decide +kernel⟩, fun _ _ _ _ _ _ _ us hl => match us, hl with | [_, _], _ => rfl⟩
theorem k__law_whole : DefOk d__law_whole := ⟨⟨rfl, rfl, rfl, by decide +kernel, rfl, by decide +kernel, by decide +kernel⟩, fun _ _ _ _ _ _ _ us hl => match us, hl with | [_], _ => rfl⟩
theorem k__law_within : DefOk d__law_within := ⟨⟨rfl, rfl, rfl, by decide +kernel, rfl, by decide +kernel, by decide +kernel⟩, fun _ _ _ _ _ _ _ us hl => match us, hl with | [_, _, _], _ => rfl⟩
theorem k__law_is_name : DefOk d__law_is_name := ⟨⟨rfl, rfl, rfl, by decide +kernel, rfl, by decide +kernel, by decide +kernel⟩, fun _ _ _ _ _ _ _ us hl => match us, hl with | [_], _ => rfl⟩
theorem k__law_spoilt : DefOk d__law_spoilt := ⟨⟨rfl, rfl, rfl, by decide +kernel, rfl, by decide +kernel, by decide +kernel⟩, fun _ _ _ _ _ _ _ us hl => match us, hl with | [_, _], _ => rfl⟩
theorem k__law_odd : DefOk d__law_odd := ⟨⟨rfl, rfl, rfl, by decide +kernel, rfl, by decide +kernel, by decide +kernel⟩, fun _ _ _ _ _ _ _ us hl => match us, hl with | [_], _ => rfl⟩
theorem k__law_lowest : DefOk d__law_lowest := ⟨⟨rfl, rfl, rfl, by decide +kernel, rfl, by decide +kernel, by decide +kernel⟩, fun _ _ _ _ _ _ _ us hl => match us, hl with | [_, _], _ => rfl⟩
theorem k__law_part : DefOk d__law_part := ⟨⟨rfl, rfl, rfl, by decide +kernel, rfl, by decide +kernel, by decide +kernel⟩, fun _ _ _ _ _ _ _ us hl => match us, hl with | [_, _], _ => rfl⟩
theorem k__law_tubs : DefOk d__law_tubs := ⟨⟨rfl, rfl, rfl, by decide +kernel, rfl, by decide +kernel, by decide +kernel⟩, fun _ _ _ _ _ _ _ us hl => match us, hl with | [_, _], _ => rfl⟩
theorem k__law_rain : DefOk d__law_rain := ⟨⟨rfl, rfl, rfl, by decide +kernel, rfl, by decide +kernel, by decide +kernel⟩, fun _ _ _ _ _ _ _ us hl => match us, hl with | [_, _], _ => rfl⟩
theorem k__law_weather : DefOk d__law_weather := ⟨⟨rfl, rfl, rfl, by decide +kernel, rfl, by decide +kernel, by decide +kernel⟩, fun _ _ _ _ _ _ _ us hl => match us, hl with | [_, _], _ => rfl⟩
theorem k__law_beginning : DefOk d__law_beginning := ⟨⟨rfl, rfl, rfl, by decide +kernel, rfl, by decide +kernel, by decide +kernel⟩, fun _ _ _ _ _ _ _ us hl => match us, hl with | [_, _], _ => rfl⟩
theorem k__law_is_hole : DefOk d__law_is_hole := ⟨⟨rfl, rfl, rfl, by decide +kernel, rfl, by decide +kernel, by decide +kernel⟩, fun _ _ _ _ _ _ _ us hl => match us, hl with | [_, _], _ => rfl⟩
theorem k__law_are_tubs : DefOk d__law_are_tubs := ⟨⟨rfl, rfl, rfl, by decide +kernel, rfl, by decide +kernel, by decide +kernel⟩, fun _ _ _ _ _ _ _ us hl => match us, hl with | [_], _ => rfl⟩
theorem k__law_is_rain : DefOk d__law_is_rain := ⟨⟨rfl, rfl, rfl, by decide +kernel, rfl, by decide +kernel, by decide +kernel⟩, fun _ _ _ _ _ _ _ us hl => match us, hl with | [_, _], _ => rfl⟩
theorem k__law_is_weather : DefOk d__law_is_weather := ⟨⟨rfl, rfl, rfl, by decide +kernel, rfl, by decide +kernel, by decide +kernel⟩, fun _ _ _ _ _ _ _ us hl => match us, hl with | [_, _], _ => rfl⟩
theorem k__law_is_beginning : DefOk d__law_is_beginning := ⟨⟨rfl, rfl, rfl, by decide +kernel, rfl, by decide +kernel, by decide +kernel⟩, fun _ _ _ _ _ _ _ us hl => match us, hl with | [_, _], _ => rfl⟩
theorem k_law : DefOk d_law := ⟨⟨rfl, rfl, rfl, by decide +kernel, rfl, by decide +kernel, by decide +kernel⟩, fun _ _ _ _ _ _ _ us hl => match us, hl with | [_], _ => rfl⟩
theorem oks : ∀ p ∈ tbl.dfs, DefOk p.2 := by
  intro p hp
  simp only [tbl, dfs0, dfs1, dfs2, dfs3, dfs4, List.mem_append, List.mem_cons, List.not_mem_nil, or_false] at hp
  rcases hp with (((((rfl | rfl | rfl | rfl | rfl | rfl | rfl | rfl) | (rfl | rfl | rfl | rfl | rfl | rfl | rfl | rfl)) | (rfl | rfl | rfl | rfl | rfl | rfl | rfl | rfl)) | (rfl | rfl | rfl | rfl | rfl | rfl | rfl | rfl)) | (rfl | rfl | rfl | rfl | rfl | rfl))
  · exact k_is_whole
  · exact k_is_whole_within
  · exact k_common_divisor
  · exact k_is_fraction
  · exact k_is_tuple_of
  · exact k_is_rising
  · exact k_is_name
  · exact k_is_way
  · exact k_is_hole
  · exact k_are_holes
  · exact k_is_tub
  · exact k_names_of
  · exact k_fits_among
  · exact k_are_tubs
  · exact k_is_rain
  · exact k_is_weather_row
  · exact k_is_weather
  · exact k_is_beginning
  · exact k__law_bag
  · exact k__law_take
  · exact k__law_of
  · exact k__law_whole
  · exact k__law_within
  · exact k__law_is_name
  · exact k__law_spoilt
  · exact k__law_odd
  · exact k__law_lowest
  · exact k__law_part
  · exact k__law_tubs
  · exact k__law_rain
  · exact k__law_weather
  · exact k__law_beginning
  · exact k__law_is_hole
  · exact k__law_are_tubs
  · exact k__law_is_rain
  · exact k__law_is_weather
  · exact k__law_is_beginning
  · exact k_law
def loose : List Str := (["__name__", "is_whole", "is_whole_within", "common_divisor", "is_fraction", "LETTERS", "LONGEST_NAME", "AWAY", "HIGHEST_HOLE", "GREATEST_RATE"] : List Str) ++ (["GREATEST_GROUND", "MOST_HOLES", "MOST_TUBS", "MOST_ROWS", "LAST_HOUR", "GREATEST_RAIN", "is_tuple_of", "is_rising", "is_name", "is_way"] : List Str) ++ (["is_hole", "are_holes", "is_tub", "names_of", "fits_among", "are_tubs", "is_rain", "is_weather_row", "is_weather", "is_beginning"] : List Str) ++ (["_law_bag", "_law_take", "_law_of", "_law_whole", "_law_within", "_law_is_name", "_law_spoilt", "_law_odd", "_law_lowest", "_law_part"] : List Str) ++ (["_law_tubs", "_law_rain", "_law_weather", "_law_beginning", "_law_is_hole", "_law_are_tubs", "_law_is_rain", "_law_is_weather", "_law_is_beginning"] : List Str)
abbrev RR : PySem.W.OpenRow := PySem.W.OpenLaw.row PySem.Challenge.rw_holetubs_k01_tubs_weather_beginnings_tol
abbrev hk : PySem.W.Hook := He.hookD 4 tbl.fa tbl.fn
def ob (s : PySem.W.SharedT) : He.AlD := He.obsDG 4 tbl.fa tbl.fn (HandSHeadRun.getT s)
theorem ob_eq (s : PySem.W.SharedT) : ob s = hk.obs s.abs := He.obsDG_eq (HandSHeadRun.getT_eq s)
theorem run (w : World) : HandSHeadRun.RunEq RR (PySem.W.view RR.prog [51]) hk ob 4000 loose w := by
  intro os
  kernel_rfl
end K01

set_option maxHeartbeats 0
namespace K01
open PySem PySem.Spec PyProof.Rows L2 Iv
variable {wh : Wh} {k : Nat}
def m_is_whole (wh : Wh) (F : FT) : SF :=
    (seqS (frzS [] (retF (andE (valF (isiF .int (vV 0))) (notE (valF (isiF .bool (vV 0)))))))
    skipS)
theorem e_is_whole : tbl.F wh 60 (k + 1) "is_whole" = runM 1 1 (m_is_whole wh (tbl.F wh 60 k)) := by kernel_rfl
def m_is_whole_within (wh : Wh) (F : FT) : SF :=
    (seqS (frzS [0] (retF (andE (valF (callF F "is_whole" (argsF [(vE 0)]))) (blF (chainF .LtE .LtE (vV 1) (vV 0) (vV 2))))))
    skipS)
theorem e_is_whole_within : tbl.F wh 60 (k + 1) "is_whole_within" = runM 3 3 (m_is_whole_within wh (tbl.F wh 60 k)) := by kernel_rfl
def m_common_divisor (wh : Wh) (F : FT) : SF :=
    (seqS (frzS [] (wh (cmpF .NotEq (vV 1) (valF (kE (.int 0)))) (seqS (frzS [1] (par2F 0 1 (vE 1) (binF .Mod (vV 0) (vV 1))))
    skipS)))
    (seqS (frzS [] (retS 0 (retF (vE 0))))
    skipS))
theorem e_common_divisor : tbl.F wh 60 (k + 1) "common_divisor" = runM 2 2 (m_common_divisor wh (tbl.F wh 60 k)) := by kernel_rfl
def m_is_fraction (wh : Wh) (F : FT) : SF :=
    (seqS (frzS [] (ifS (orT (notT (tstF (valF (isiF .tuple (vV 0))))) (cmpF .NotEq (valF (orElse (lenS 0) (bltF1 .len (vV 0)))) (valF (kE (.int 2))))) (seqS (frzS [] (retF (kE (.bool false))))
    skipS) skipS))
    (seqS (frzS [0] (unpF (vE 0) (unF [1, 2])))
    (seqS (frzS [1, 2] (ifS (orT (notT (tstF (valF (callF F "is_whole" (argsF [(vE 1)]))))) (notT (tstF (valF (callF F "is_whole" (argsF [(vE 2)])))))) (seqS (frzS [] (retF (kE (.bool false))))
    skipS) skipS))
    (seqS (frzS [1, 2] (retF (andE (valF (blF (cmpF .GtE (vV 1) (valF (kE (.int 0)))))) (andE (valF (blF (cmpF .GtE (vV 2) (valF (kE (.int 1)))))) (blF (cmpF .Eq (valF (callF F "common_divisor" (argsF [(vE 1), (vE 2)]))) (valF (kE (.int 1)))))))))
    skipS))))
theorem e_is_fraction : tbl.F wh 60 (k + 1) "is_fraction" = runM 1 3 (m_is_fraction wh (tbl.F wh 60 k)) := by kernel_rfl
def m_is_tuple_of (wh : Wh) (F : FT) : SF :=
    (seqS (frzS [] (retF (andE (valF (isiF .tuple (vV 0))) (blF (chainF .LtE .LtE (vV 1) (valF (orElse (lenS 0) (bltF1 .len (vV 0)))) (vV 2))))))
    skipS)
theorem e_is_tuple_of : tbl.F wh 60 (k + 1) "is_tuple_of" = runM 3 3 (m_is_tuple_of wh (tbl.F wh 60 k)) := by kernel_rfl
def m_is_rising (wh : Wh) (F : FT) : SF :=
    (seqS (frzS [0] (retF (bltF1 .all (valF (lcF (zipF (vE 0) (slF (vV 0) (partF (some (valF (kE (.int 1))))) (partF none))) [1, 2] (unF [1, 2]) yesT (blF (cmpF .Lt (vV 1) (vV 2))))))))
    skipS)
theorem e_is_rising : tbl.F wh 60 (k + 1) "is_rising" = runM 1 3 (m_is_rising wh (tbl.F wh 60 k)) := by kernel_rfl
def m_is_name (wh : Wh) (F : FT) : SF :=
    (seqS (frzS [] (ifS (orT (notT (tstF (valF (isiF .str (vV 0))))) (notT (chainF .LtE .LtE (valF (kE (.int 1))) (valF (orElse (lenS 0) (bltF1 .len (vV 0)))) (kV' (.int 8))))) (seqS (frzS [] (retF (kE (.bool false))))
    skipS) skipS))
    (seqS (frzS [0] (retF (bltF1 .all (valF (lcF (plainF (vE 0)) [1] (setF 1) yesT (blF (cmpF .In (vV 1) (kV' (.str "abcdefghijklmnopqrstuvwxyz")))))))))
    skipS))
theorem e_is_name : tbl.F wh 60 (k + 1) "is_name" = runM 1 2 (m_is_name wh (tbl.F wh 60 k)) := by kernel_rfl
def m_is_way (wh : Wh) (F : FT) : SF :=
    (seqS (frzS [0] (retF (orE (valF (callF F "is_name" (argsF [(vE 0)]))) (andE (valF (isiF .str (vV 0))) (blF (cmpF .Eq (vV 0) (kV' (.str ""))))))))
    skipS)
theorem e_is_way : tbl.F wh 60 (k + 1) "is_way" = runM 1 1 (m_is_way wh (tbl.F wh 60 k)) := by kernel_rfl
def m_is_hole (wh : Wh) (F : FT) : SF :=
    (seqS (frzS [0] (ifS (notT (tstF (valF (callF F "is_tuple_of" (argsF [(vE 0), (kE (.int 3)), (kE (.int 3))]))))) (seqS (frzS [] (retF (kE (.bool false))))
    skipS) skipS))
    (seqS (frzS [0] (unpF (vE 0) (unF [1, 2, 3])))
    (seqS (frzS [1, 2, 3] (retF (andE (valF (callF F "is_whole_within" (argsF [(vE 1), (kE (.int 0)), (kE (.int 1000))]))) (andE (valF (callF F "is_whole_within" (argsF [(vE 2), (kE (.int 1)), (kE (.int 100))]))) (callF F "is_way" (argsF [(vE 3)]))))))
    skipS)))
theorem e_is_hole : tbl.F wh 60 (k + 1) "is_hole" = runM 1 4 (m_is_hole wh (tbl.F wh 60 k)) := by kernel_rfl
def m_are_holes (wh : Wh) (F : FT) : SF :=
    (seqS (frzS [0, 0] (ifS (orT (notT (tstF (valF (callF F "is_tuple_of" (argsF [(vE 0), (kE (.int 0)), (kE (.int 3))]))))) (notT (tstF (valF (bltF1 .all (valF (lcF (plainF (vE 0)) [1] (setF 1) yesT (callF F "is_hole" (argsF [(vE 1)]))))))))) (seqS (frzS [] (retF (kE (.bool false))))
    skipS) skipS))
    (seqS (frzS [0] (retF (callF F "is_rising" (argsF [(lcF (plainF (vE 0)) [2, 3, 4] (unF [2, 3, 4]) yesT (vE 2))]))))
    skipS))
theorem e_are_holes : tbl.F wh 60 (k + 1) "are_holes" = runM 1 5 (m_are_holes wh (tbl.F wh 60 k)) := by kernel_rfl
def m_is_tub (wh : Wh) (F : FT) : SF :=
    (seqS (frzS [0] (ifS (notT (tstF (valF (callF F "is_tuple_of" (argsF [(vE 0), (kE (.int 3)), (kE (.int 3))]))))) (seqS (frzS [] (retF (kE (.bool false))))
    skipS) skipS))
    (seqS (frzS [0] (unpF (vE 0) (unF [1, 2, 3])))
    (seqS (frzS [1, 2, 3] (retF (andE (valF (callF F "is_name" (argsF [(vE 1)]))) (andE (valF (callF F "is_whole_within" (argsF [(vE 2), (kE (.int 1)), (kE (.int 1000))]))) (callF F "are_holes" (argsF [(vE 3)]))))))
    skipS)))
theorem e_is_tub : tbl.F wh 60 (k + 1) "is_tub" = runM 1 4 (m_is_tub wh (tbl.F wh 60 k)) := by kernel_rfl
def m_names_of (wh : Wh) (F : FT) : SF :=
    (seqS (frzS [0] (retF (lcF (plainF (vE 0)) [1, 2, 3] (unF [1, 2, 3]) yesT (vE 1))))
    skipS)
theorem e_names_of : tbl.F wh 60 (k + 1) "names_of" = runM 1 4 (m_names_of wh (tbl.F wh 60 k)) := by kernel_rfl
def m_fits_among (wh : Wh) (F : FT) : SF :=
    (seqS (frzS [0] (unpF (vE 0) (unF [3, 4, 5])))
    (seqS (frzS [5] (retF (andE (valF (blF (cmpF .NotIn (vV 3) (vV 1)))) (bltF1 .all (valF (lcF (plainF (vE 5)) [6, 7, 8] (unF [6, 7, 8]) yesT (orE (valF (blF (cmpF .Eq (vV 8) (kV' (.str ""))))) (blF (cmpF .In (vV 8) (vV 2))))))))))
    skipS))
theorem e_fits_among : tbl.F wh 60 (k + 1) "fits_among" = runM 3 9 (m_fits_among wh (tbl.F wh 60 k)) := by kernel_rfl
def m_are_tubs (wh : Wh) (F : FT) : SF :=
    (seqS (frzS [0, 0] (ifS (orT (notT (tstF (valF (callF F "is_tuple_of" (argsF [(vE 0), (kE (.int 1)), (kE (.int 3))]))))) (notT (tstF (valF (bltF1 .all (valF (lcF (plainF (vE 0)) [1] (setF 1) yesT (callF F "is_tub" (argsF [(vE 1)]))))))))) (seqS (frzS [] (retF (kE (.bool false))))
    skipS) skipS))
    (seqS (frzS [0] (asgF 2 (callF F "names_of" (argsF [(vE 0)]))))
    (seqS (frzS [0] (retF (bltF1 .all (valF (lcF (enumF (vE 0)) [3, 4] (unF [3, 4]) yesT (callF F "fits_among" (argsF [(vE 4), (slF (vV 2) (partF none) (partF (some (vV 3)))), (slF (vV 2) (partF (some (valF (binF .Add (vV 3) (valF (kE (.int 1))))))) (partF none))])))))))
    skipS)))
theorem e_are_tubs : tbl.F wh 60 (k + 1) "are_tubs" = runM 1 5 (m_are_tubs wh (tbl.F wh 60 k)) := by kernel_rfl
def m_is_rain (wh : Wh) (F : FT) : SF :=
    (seqS (frzS [1] (ifS (notT (tstF (valF (callF F "is_tuple_of" (argsF [(vE 1), (orElse (lenS 0) (bltF1 .len (vV 0))), (orElse (lenS 0) (bltF1 .len (vV 0)))]))))) (seqS (frzS [] (retF (kE (.bool false))))
    skipS) skipS))
    (seqS (frzS [1] (retF (bltF1 .all (valF (lcF (plainF (vE 1)) [2] (setF 2) yesT (callF F "is_whole_within" (argsF [(vE 2), (kE (.int 0)), (kE (.int 1000))])))))))
    skipS))
theorem e_is_rain : tbl.F wh 60 (k + 1) "is_rain" = runM 2 3 (m_is_rain wh (tbl.F wh 60 k)) := by kernel_rfl
def m_is_weather_row (wh : Wh) (F : FT) : SF :=
    (seqS (frzS [1] (ifS (notT (tstF (valF (callF F "is_tuple_of" (argsF [(vE 1), (kE (.int 2)), (kE (.int 2))]))))) (seqS (frzS [] (retF (kE (.bool false))))
    skipS) skipS))
    (seqS (frzS [1] (unpF (vE 1) (unF [2, 3])))
    (seqS (frzS [2, 0, 3] (retF (andE (valF (callF F "is_whole_within" (argsF [(vE 2), (kE (.int 0)), (kE (.int 1000))]))) (callF F "is_rain" (argsF [(vE 0), (vE 3)])))))
    skipS)))
theorem e_is_weather_row : tbl.F wh 60 (k + 1) "is_weather_row" = runM 2 4 (m_is_weather_row wh (tbl.F wh 60 k)) := by kernel_rfl
def m_is_weather (wh : Wh) (F : FT) : SF :=
    (seqS (frzS [1, 0, 1] (ifS (orT (notT (tstF (valF (callF F "is_tuple_of" (argsF [(vE 1), (kE (.int 1)), (kE (.int 4))]))))) (notT (tstF (valF (bltF1 .all (valF (lcF (plainF (vE 1)) [2] (setF 2) yesT (callF F "is_weather_row" (argsF [(vE 0), (vE 2)]))))))))) (seqS (frzS [] (retF (kE (.bool false))))
    skipS) skipS))
    (seqS (frzS [1] (asgF 3 (lcF (plainF (vE 1)) [4, 5] (unF [4, 5]) yesT (vE 4))))
    (seqS (frzS [3] (retF (andE (valF (blF (cmpF .Eq (valF (orElse (ixS 3 (valF (kE (.int 0)))) (ixF (vV 3) (valF (kE (.int 0)))))) (valF (kE (.int 0)))))) (callF F "is_rising" (argsF [(vE 3)])))))
    skipS)))
theorem e_is_weather : tbl.F wh 60 (k + 1) "is_weather" = runM 2 6 (m_is_weather wh (tbl.F wh 60 k)) := by kernel_rfl
def m_is_beginning (wh : Wh) (F : FT) : SF :=
    (seqS (frzS [1] (ifS (notT (tstF (valF (callF F "is_tuple_of" (argsF [(vE 1), (orElse (lenS 0) (bltF1 .len (vV 0))), (orElse (lenS 0) (bltF1 .len (vV 0)))]))))) (seqS (frzS [] (retF (kE (.bool false))))
    skipS) skipS))
    (seqS (frzS [1] (retF (bltF1 .all (valF (lcF (plainF (vE 1)) [2] (setF 2) yesT (callF F "is_fraction" (argsF [(vE 2)])))))))
    skipS))
theorem e_is_beginning : tbl.F wh 60 (k + 1) "is_beginning" = runM 2 3 (m_is_beginning wh (tbl.F wh 60 k)) := by kernel_rfl
def m__law_bag (wh : Wh) (F : FT) : SF :=
    (seqS (frzS [] (asgF 2 (kE (.int 0))))
    (seqS (frzS [] (ifS (cmpF .Lt (vV 1) (valF (orElse (lenS 0) (bltF1 .len (vV 0))))) (seqS (frzS [] (asgF 2 (bltF1 .abs (valF (orElse (ixS 0 (vV 1)) (ixF (vV 0) (vV 1)))))))
    skipS) skipS))
    (seqS (frzS [] (ifS (cmpF .Lt (vV 2) (valF (binF .Pow (valF (kE (.int 10))) (valF (kE (.int 18)))))) (seqS (frzS [] (retF (lstF (argsF [(kE (.int 0)), (binF .Add (valF (kE (.int 1))) (valF (binF .Mod (valF (binF .Add (valF (binF .Mult (vV 2) (valF (kE (.int 7919))))) (valF (binF .Mult (valF (kE (.int 104729))) (vV 1))))) (valF (kE (.int 2147483646))))))]))))
    skipS) skipS))
    (seqS (frzS [2] (retF (lstF (argsF [(vE 2), (binF .Add (valF (kE (.int 1))) (valF (binF .Mod (valF (binF .Add (vV 2) (vV 1))) (valF (kE (.int 2147483646))))))]))))
    skipS))))
theorem e__law_bag : tbl.F wh 60 (k + 1) "_law_bag" = runM 2 3 (m__law_bag wh (tbl.F wh 60 k)) := by kernel_rfl
def m__law_take (wh : Wh) (F : FT) : SF :=
    (seqS (frzS [] (ifS (cmpF .Gt (valF (orElse (ixS 0 (valF (kE (.int 0)))) (ixF (vV 0) (valF (kE (.int 0)))))) (valF (kE (.int 0)))) (seqS (frzS [] (asgF 2 (binF .Mod (valF (orElse (ixS 0 (valF (kE (.int 0)))) (ixF (vV 0) (valF (kE (.int 0)))))) (vV 1))))
    (seqS (frzS [] (setS 0 (binF .FloorDiv (valF (orElse (ixS 0 (valF (kE (.int 0)))) (ixF (vV 0) (valF (kE (.int 0)))))) (vV 1)) (valF (kE (.int 0)))))
    (seqS (frzS [] (retS 2 (retF (vE 2))))
    skipS))) skipS))
    (seqS (frzS [] (setS 0 (binF .Mod (valF (binF .Mult (valF (orElse (ixS 0 (valF (kE (.int 1)))) (ixF (vV 0) (valF (kE (.int 1)))))) (valF (kE (.int 48271))))) (valF (kE (.int 2147483647)))) (valF (kE (.int 1)))))
    (seqS (frzS [] (retF (binF .Mod (valF (binF .FloorDiv (valF (binF .Mod (valF (binF .Mult (valF (orElse (ixS 0 (valF (kE (.int 1)))) (ixF (vV 0) (valF (kE (.int 1)))))) (valF (orElse (ixS 0 (valF (kE (.int 1)))) (ixF (vV 0) (valF (kE (.int 1)))))))) (valF (kE (.int 2147483629))))) (valF (kE (.int 64))))) (vV 1))))
    skipS)))
theorem e__law_take : tbl.F wh 60 (k + 1) "_law_take" = runM 2 3 (m__law_take wh (tbl.F wh 60 k)) := by kernel_rfl
def m__law_of (wh : Wh) (F : FT) : SF :=
    (seqS (frzS [0] (retF (orElse (ixS 1 (valF (callF F "_law_take" (argsF [(vE 0), (orElse (lenS 1) (bltF1 .len (vV 1)))])))) (ixF (vV 1) (valF (callF F "_law_take" (argsF [(vE 0), (orElse (lenS 1) (bltF1 .len (vV 1)))])))))))
    skipS)
theorem e__law_of : tbl.F wh 60 (k + 1) "_law_of" = runM 2 2 (m__law_of wh (tbl.F wh 60 k)) := by kernel_rfl
def m__law_whole (wh : Wh) (F : FT) : SF :=
    (seqS (frzS [] (retF (andE (valF (isiF .int (vV 0))) (notE (valF (isiF .bool (vV 0)))))))
    skipS)
theorem e__law_whole : tbl.F wh 60 (k + 1) "_law_whole" = runM 1 1 (m__law_whole wh (tbl.F wh 60 k)) := by kernel_rfl
def m__law_within (wh : Wh) (F : FT) : SF :=
    (seqS (frzS [] (retF (andE (valF (isiF .int (vV 0))) (andE (valF (notE (valF (isiF .bool (vV 0))))) (blF (chainF .LtE .LtE (vV 1) (vV 0) (vV 2)))))))
    skipS)
theorem e__law_within : tbl.F wh 60 (k + 1) "_law_within" = runM 3 3 (m__law_within wh (tbl.F wh 60 k)) := by kernel_rfl
def m__law_is_name (wh : Wh) (F : FT) : SF :=
    (seqS (frzS [] (ifS (orT (notT (tstF (valF (isiF .str (vV 0))))) (notT (chainF .LtE .LtE (valF (kE (.int 1))) (valF (orElse (lenS 0) (bltF1 .len (vV 0)))) (valF (kE (.int 8)))))) (seqS (frzS [] (retF (kE (.bool false))))
    skipS) skipS))
    (seqS (frzS [0] (retF (blF (cmpF .Eq (valF (lcF (plainF (vE 0)) [1] (setF 1) (cmpF .NotIn (vV 1) (valF (kE (.str "abcdefghijklmnopqrstuvwxyz")))) (vE 1))) (valF (lstF (argsF [])))))))
    skipS))
theorem e__law_is_name : tbl.F wh 60 (k + 1) "_law_is_name" = runM 1 2 (m__law_is_name wh (tbl.F wh 60 k)) := by kernel_rfl
def m__law_spoilt (wh : Wh) (F : FT) : SF :=
    (seqS (frzS [0] (asgF 2 (callF F "_law_take" (argsF [(vE 0), (kE (.int 9))]))))
    (seqS (frzS [] (ifS (andT (tstF (valF (isiF2 .tuple .list (vV 1)))) (andT (cmpF .Gt (valF (orElse (lenS 1) (bltF1 .len (vV 1)))) (valF (kE (.int 0)))) (cmpF .Gt (vV 2) (valF (kE (.int 0)))))) (seqS (frzS [] (asgF 3 (bltF1 .list (vV 1))))
    (seqS (frzS [0] (asgF 4 (callF F "_law_take" (argsF [(vE 0), (orElse (lenS 3) (bltF1 .len (vV 3)))]))))
    (seqS (frzS [] (ifS (cmpF .Eq (vV 2) (valF (kE (.int 1)))) (seqS (frzS [4] (asgF 3 (binF .Add (valF (slF (vV 3) (partF none) (partF (some (vV 4))))) (valF (slF (vV 3) (partF (some (valF (binF .Add (vV 4) (valF (kE (.int 1))))))) (partF none))))))
    skipS) (seqS (frzS [] (ifS (cmpF .Eq (vV 2) (valF (kE (.int 2)))) (seqS (frzS [4] (asgF 3 (binF .Add (valF (slF (vV 3) (partF none) (partF (some (valF (binF .Add (vV 4) (valF (kE (.int 1))))))))) (valF (slF (vV 3) (partF (some (vV 4))) (partF none))))))
    skipS) (seqS (frzS [] (ifS (cmpF .Eq (vV 2) (valF (kE (.int 3)))) (seqS (frzS [0] (asgF 5 (callF F "_law_take" (argsF [(vE 0), (orElse (lenS 3) (bltF1 .len (vV 3)))]))))
    (seqS (frzS [] (swS 3 (tupF (argsF [(orElse (ixS 3 (vV 5)) (ixF (vV 3) (vV 5))), (orElse (ixS 3 (vV 4)) (ixF (vV 3) (vV 4)))])) (vV 4) (vV 5)))
    skipS)) (seqS (frzS [] (ifS (cmpF .Eq (vV 2) (valF (kE (.int 4)))) (seqS (frzS [3] (retF (ifE (tstF (valF (isiF .tuple (vV 1)))) (vE 3) (bltF1 .tuple (vV 3)))))
    skipS) (seqS (frzS [0] (setS 3 (callF F "_law_spoilt" (argsF [(vE 0), (orElse (ixS 3 (vV 4)) (ixF (vV 3) (vV 4)))])) (vV 4)))
    skipS)))
    skipS)))
    skipS)))
    skipS)))
    (seqS (frzS [3] (retF (ifE (tstF (valF (isiF .tuple (vV 1)))) (bltF1 .tuple (vV 3)) (vE 3))))
    skipS)))) skipS))
    (seqS (frzS [] (ifS (andT (tstF (valF (isiF .str (vV 1)))) (cmpF .Gt (vV 2) (valF (kE (.int 1))))) (seqS (frzS [] (retF (ixF (valF (lstF (argsF [(binF .Add (vV 1) (valF (kE (.str "a")))), (slF (vV 1) (partF none) (partF (some (valF (negE (valF (kE (.int 1)))))))), (binF .Add (vV 1) (valF (kE (.str " ")))), (upF (vV 1)), (binF .Add (vV 1) (vV 1)), (binF .Add (valF (kE (.str "z"))) (vV 1)), (kE (.str ""))]))) (valF (binF .Sub (vV 2) (valF (kE (.int 2))))))))
    skipS) skipS))
    (seqS (frzS [] (ifS (andT (tstF (valF (isiF .int (vV 1)))) (cmpF .Gt (vV 2) (valF (kE (.int 1))))) (seqS (frzS [1] (retF (ixF (valF (lstF (argsF [(binF .Add (vV 1) (valF (kE (.int 1)))), (binF .Sub (vV 1) (valF (kE (.int 1)))), (negE (vV 1)), (binF .Add (vV 1) (valF (kE (.int 1000)))), (bltF1 .str (vV 1)), (binF .Add (vV 1) (valF (kE (.int 50)))), (tupF (argsF [(vE 1)]))]))) (valF (binF .Sub (vV 2) (valF (kE (.int 2))))))))
    skipS) skipS))
    (seqS (frzS [0] (retF (callF F "_law_odd" (argsF [(vE 0)]))))
    skipS)))))
theorem e__law_spoilt : tbl.F wh 60 (k + 1) "_law_spoilt" = runM 2 6 (m__law_spoilt wh (tbl.F wh 60 k)) := by kernel_rfl
def m__law_odd (wh : Wh) (F : FT) : SF :=
    (seqS (frzS [] (asgF 1 (lstF (argsF [(kE .none), (kE (.bool true)), (kE (.bool false)), (kE (.int 0)), (kE (.int 1)), (negE (valF (kE (.int 1)))), (kE (.int 5)), (binF .Pow (valF (kE (.int 10))) (valF (kE (.int 30)))), (kE (.str "")), (kE (.str "ann")), (tupF (argsF [])), (lstF (argsF [])), (tupF (argsF [(kE (.int 1)), (kE (.int 2))])), (tupF (argsF [(negE (valF (kE (.int 1)))), (kE (.int 2))])), (tupF (argsF [(kE (.int 2)), (kE (.int 4))])), (tupF (argsF [(kE (.int 0)), (kE (.int 2))])), (tupF (argsF [(kE (.int 0)), (kE (.int 1))]))]))))
    (seqS (frzS [] (asgF 1 (binF .Add (vV 1) (valF (lstF (argsF [(tupF (argsF [(kE .none)])), (tupF (argsF [(kE (.str "ann")), (kE (.int 1)), (tupF (argsF []))])), (tupF (argsF [(tupF (argsF [(kE (.str "ann")), (kE (.int 1)), (tupF (argsF []))]))])), (tupF (argsF [(tupF (argsF [(kE (.int 0)), (tupF (argsF [(kE (.int 0))]))]))])), (tupF (argsF [(kE (.str "ann")), (kE (.int 0))])), (tupF (argsF [(kE (.str "ann")), (kE (.bool true))])), (tupF (argsF [(kE (.int 1)), (kE (.int 1)), (kE (.str ""))]))]))))))
    (seqS (frzS [0] (retF (orElse (ixS 1 (valF (callF F "_law_take" (argsF [(vE 0), (orElse (lenS 1) (bltF1 .len (vV 1)))])))) (ixF (vV 1) (valF (callF F "_law_take" (argsF [(vE 0), (orElse (lenS 1) (bltF1 .len (vV 1)))])))))))
    skipS)))
theorem e__law_odd : tbl.F wh 60 (k + 1) "_law_odd" = runM 1 2 (m__law_odd wh (tbl.F wh 60 k)) := by kernel_rfl
def m__law_lowest (wh : Wh) (F : FT) : SF :=
    (seqS (frzS [1] (par2F 2 3 (bltF1 .abs (vV 0)) (vE 1)))
    (seqS (frzS [] (wh (cmpF .Gt (vV 3) (valF (kE (.int 0)))) (seqS (frzS [3] (par2F 2 3 (vE 3) (binF .Mod (vV 2) (vV 3))))
    skipS)))
    (seqS (frzS [] (retF (tupF (argsF [(binF .FloorDiv (vV 0) (vV 2)), (binF .FloorDiv (vV 1) (vV 2))]))))
    skipS)))
theorem e__law_lowest : tbl.F wh 60 (k + 1) "_law_lowest" = runM 2 4 (m__law_lowest wh (tbl.F wh 60 k)) := by kernel_rfl
def m__law_part (wh : Wh) (F : FT) : SF :=
    (seqS (frzS [0, 0, 0] (retF (callF F "_law_lowest" (argsF [(callF F "_law_take" (argsF [(vE 0), (binF .Add (vV 1) (valF (kE (.int 1))))])), (binF .Add (valF (kE (.int 1))) (valF (callF F "_law_take" (argsF [(vE 0), (ixF (valF (lstF (argsF [(kE (.int 1)), (kE (.int 4))]))) (valF (callF F "_law_take" (argsF [(vE 0), (kE (.int 2))]))))]))))]))))
    skipS)
theorem e__law_part : tbl.F wh 60 (k + 1) "_law_part" = runM 2 2 (m__law_part wh (tbl.F wh 60 k)) := by kernel_rfl
def m__law_tubs (wh : Wh) (F : FT) : SF :=
    (seqS (frzS [0, 0, 1] (asgF 2 (slF (valF (callF F "_law_of" (argsF [(vE 0), (lstF (argsF [(lstF (argsF [(kE (.str "ann")), (kE (.str "bo")), (kE (.str "cy"))])), (lstF (argsF [(kE (.str "cy")), (kE (.str "ann")), (kE (.str "bo"))]))]))]))) (partF none) (partF (some (valF (binF .Add (valF (kE (.int 1))) (valF (callF F "_law_take" (argsF [(vE 0), (vE 1)]))))))))))
    (seqS (frzS [] (asgF 3 (lstF (argsF []))))
    (seqS (frzS [2] (forF (enumF (vE 2)) (unF [4, 5]) (seqS (frzS [] (asgF 6 dict0))
    (seqS (frzS [0] (asgF 7 (ixF (valF (lstF (argsF [(kE (.int 4)), (kE (.int 12)), (kE (.int 1001))]))) (valF (callF F "_law_take" (argsF [(vE 0), (kE (.int 3))]))))))
    (seqS (frzS [0] (forF (rangeF (valF (callF F "_law_take" (argsF [(vE 0), (kE (.int 4))])))) (setF 8) (seqS (frzS [] (setS 6 (kE (.bool true)) (valF (callF F "_law_take" (argsF [(vE 0), (vE 7)])))))
    skipS)))
    (seqS (frzS [] (asgF 9 (lstF (argsF []))))
    (seqS (frzS [] (forF (plainF (bltF1 .sorted (vV 6))) (setF 10) (seqS (frzS [0, 0] (asgF 11 (binF .Add (valF (kE (.int 1))) (valF (callF F "_law_take" (argsF [(vE 0), (ixF (valF (lstF (argsF [(kE (.int 4)), (kE (.int 100))]))) (valF (callF F "_law_take" (argsF [(vE 0), (kE (.int 2))]))))]))))))
    (seqS (frzS [10, 11, 0] (appS 9 (tupF (argsF [(vE 10), (vE 11), (callF F "_law_of" (argsF [(vE 0), (binF .Add (valF (binF .Add (valF (lstF (argsF [(kE (.str ""))]))) (valF (slF (vV 2) (partF (some (valF (binF .Add (vV 4) (valF (kE (.int 1))))))) (partF none))))) (valF (slF (vV 2) (partF (some (valF (binF .Add (vV 4) (valF (kE (.int 1))))))) (partF none))))]))]))))
    skipS))))
    (seqS (frzS [5, 0, 0] (appS 3 (tupF (argsF [(vE 5), (binF .Add (valF (kE (.int 1))) (valF (callF F "_law_take" (argsF [(vE 0), (ixF (valF (lstF (argsF [(kE (.int 3)), (kE (.int 30))]))) (valF (callF F "_law_take" (argsF [(vE 0), (kE (.int 2))]))))])))), (bltF1 .tuple (vV 9))]))))
    skipS))))))))
    (seqS (frzS [] (retF (bltF1 .tuple (vV 3))))
    skipS))))
theorem e__law_tubs : tbl.F wh 60 (k + 1) "_law_tubs" = runM 2 12 (m__law_tubs wh (tbl.F wh 60 k)) := by kernel_rfl
def m__law_rain (wh : Wh) (F : FT) : SF :=
    (seqS (frzS [] (asgF 2 (lstF (argsF []))))
    (seqS (frzS [1] (forF (plainF (vE 1)) (unF [3, 4, 5]) (seqS (frzS [] (par2F 6 7 (lstF (argsF [(kE (.int 0))])) (kE (.int 0))))
    (seqS (frzS [5] (forF (plainF (vE 5)) (setF 8) (seqS (frzS [] (asgF 7 (binF .Add (vV 7) (valF (orElse (ixS 8 (valF (kE (.int 1)))) (ixF (vV 8) (valF (kE (.int 1)))))))))
    (seqS (frzS [7] (appS 6 (vE 7)))
    skipS))))
    (seqS (frzS [0, 6, 0, 0, 0] (appS 2 (ixF (valF (lstF (argsF [(callF F "_law_of" (argsF [(vE 0), (vE 6)])), (callF F "_law_take" (argsF [(vE 0), (kE (.int 8))])), (callF F "_law_take" (argsF [(vE 0), (kE (.int 200))])), (kE (.int 0))]))) (valF (callF F "_law_take" (argsF [(vE 0), (kE (.int 4))]))))))
    skipS)))))
    (seqS (frzS [] (retF (bltF1 .tuple (vV 2))))
    skipS)))
theorem e__law_rain : tbl.F wh 60 (k + 1) "_law_rain" = runM 2 9 (m__law_rain wh (tbl.F wh 60 k)) := by kernel_rfl
def m__law_weather (wh : Wh) (F : FT) : SF :=
    (seqS (frzS [] (asgF 2 (dict1 (valF (kE (.int 0))) (valF (kE (.bool true))))))
    (seqS (frzS [0] (forF (rangeF (valF (callF F "_law_take" (argsF [(vE 0), (kE (.int 4))])))) (setF 3) (seqS (frzS [] (setS 2 (kE (.bool true)) (valF (binF .Add (valF (kE (.int 1))) (valF (callF F "_law_take" (argsF [(vE 0), (ixF (valF (lstF (argsF [(kE (.int 6)), (kE (.int 60))]))) (valF (callF F "_law_take" (argsF [(vE 0), (kE (.int 2))]))))])))))))
    skipS)))
    (seqS (frzS [0, 1] (retF (bltF1 .tuple (valF (lcF (plainF (bltF1 .sorted (vV 2))) [4] (setF 4) yesT (tupF (argsF [(vE 4), (callF F "_law_rain" (argsF [(vE 0), (vE 1)]))])))))))
    skipS)))
theorem e__law_weather : tbl.F wh 60 (k + 1) "_law_weather" = runM 2 5 (m__law_weather wh (tbl.F wh 60 k)) := by kernel_rfl
def m__law_beginning (wh : Wh) (F : FT) : SF :=
    (seqS (frzS [] (asgF 2 (lstF (argsF []))))
    (seqS (frzS [1] (forF (plainF (vE 1)) (unF [3, 4, 5]) (seqS (frzS [0, 5] (asgF 6 (binF .Add (valF (lstF (argsF [(tupF (argsF [(kE (.int 0)), (kE (.int 1))])), (callF F "_law_part" (argsF [(vE 0), (kE (.int 15))]))]))) (valF (lcF (plainF (vE 5)) [7] (setF 7) yesT (tupF (argsF [(orElse (ixS 7 (valF (kE (.int 0)))) (ixF (vV 7) (valF (kE (.int 0))))), (kE (.int 1))])))))))
    (seqS (frzS [0, 6] (appS 2 (callF F "_law_of" (argsF [(vE 0), (vE 6)]))))
    skipS))))
    (seqS (frzS [] (retF (bltF1 .tuple (vV 2))))
    skipS)))
theorem e__law_beginning : tbl.F wh 60 (k + 1) "_law_beginning" = runM 2 8 (m__law_beginning wh (tbl.F wh 60 k)) := by kernel_rfl
def m__law_is_hole (wh : Wh) (F : FT) : SF :=
    (seqS (frzS [] (ifS (orT (notT (tstF (valF (isiF .tuple (vV 0))))) (orT (cmpF .NotEq (valF (orElse (lenS 0) (bltF1 .len (vV 0)))) (valF (kE (.int 3)))) (notT (tstF (valF (callF F "_law_within" (argsF [(orElse (ixS 0 (valF (kE (.int 0)))) (ixF (vV 0) (valF (kE (.int 0))))), (kE (.int 0)), (kE (.int 1000))]))))))) (seqS (frzS [] (retF (kE (.bool false))))
    skipS) skipS))
    (seqS (frzS [] (retF (andE (valF (callF F "_law_within" (argsF [(orElse (ixS 0 (valF (kE (.int 1)))) (ixF (vV 0) (valF (kE (.int 1))))), (kE (.int 1)), (kE (.int 100))]))) (andE (valF (isiF .str (valF (orElse (ixS 0 (valF (kE (.int 2)))) (ixF (vV 0) (valF (kE (.int 2)))))))) (blF (cmpF .In (valF (orElse (ixS 0 (valF (kE (.int 2)))) (ixF (vV 0) (valF (kE (.int 2)))))) (valF (binF .Add (valF (lstF (argsF [(kE (.str ""))]))) (vV 1)))))))))
    skipS))
theorem e__law_is_hole : tbl.F wh 60 (k + 1) "_law_is_hole" = runM 2 2 (m__law_is_hole wh (tbl.F wh 60 k)) := by kernel_rfl
def m__law_are_tubs (wh : Wh) (F : FT) : SF :=
    (seqS (frzS [] (ifS (orT (notT (tstF (valF (isiF .tuple (vV 0))))) (notT (chainF .LtE .LtE (valF (kE (.int 1))) (valF (orElse (lenS 0) (bltF1 .len (vV 0)))) (valF (kE (.int 3)))))) (seqS (frzS [] (retF (kE (.bool false))))
    skipS) skipS))
    (seqS (frzS [] (asgF 1 (lstF (argsF []))))
    (seqS (frzS [0] (forF (plainF (vE 0)) (setF 2) (seqS (frzS [] (ifS (orT (notT (tstF (valF (isiF .tuple (vV 2))))) (orT (cmpF .NotEq (valF (orElse (lenS 2) (bltF1 .len (vV 2)))) (valF (kE (.int 3)))) (orT (notT (tstF (valF (callF F "_law_is_name" (argsF [(orElse (ixS 2 (valF (kE (.int 0)))) (ixF (vV 2) (valF (kE (.int 0)))))]))))) (notT (tstF (valF (callF F "_law_within" (argsF [(orElse (ixS 2 (valF (kE (.int 1)))) (ixF (vV 2) (valF (kE (.int 1))))), (kE (.int 1)), (kE (.int 1000))])))))))) (seqS (frzS [] (retF (kE (.bool false))))
    skipS) skipS))
    (seqS (frzS [] (ifS (orT (notT (tstF (valF (isiF .tuple (valF (orElse (ixS 2 (valF (kE (.int 2)))) (ixF (vV 2) (valF (kE (.int 2)))))))))) (orT (cmpF .Gt (valF (bltF1 .len (valF (orElse (ixS 2 (valF (kE (.int 2)))) (ixF (vV 2) (valF (kE (.int 2)))))))) (valF (kE (.int 3)))) (cmpF .In (valF (orElse (ixS 2 (valF (kE (.int 0)))) (ixF (vV 2) (valF (kE (.int 0)))))) (vV 1)))) (seqS (frzS [] (retF (kE (.bool false))))
    skipS) skipS))
    (seqS (frzS [] (appS 1 (orElse (ixS 2 (valF (kE (.int 0)))) (ixF (vV 2) (valF (kE (.int 0)))))))
    skipS)))))
    (seqS (frzS [0] (forF (enumF (vE 0)) (unF [3, 2]) (seqS (frzS [] (ifS (cmpF .NotEq (valF (lcF (plainF (orElse (ixS 2 (valF (kE (.int 2)))) (ixF (vV 2) (valF (kE (.int 2)))))) [4] (setF 4) (notT (tstF (valF (callF F "_law_is_hole" (argsF [(vE 4), (slF (vV 1) (partF (some (valF (binF .Add (vV 3) (valF (kE (.int 1))))))) (partF none))]))))) (vE 4))) (valF (lstF (argsF [])))) (seqS (frzS [] (retF (kE (.bool false))))
    skipS) skipS))
    (seqS (frzS [] (asgF 5 (lcF (plainF (orElse (ixS 2 (valF (kE (.int 2)))) (ixF (vV 2) (valF (kE (.int 2)))))) [4] (setF 4) yesT (orElse (ixS 4 (valF (kE (.int 0)))) (ixF (vV 4) (valF (kE (.int 0))))))))
    (seqS (frzS [] (ifS (cmpF .NotEq (vV 5) (valF (ssF (vV 5)))) (seqS (frzS [] (retF (kE (.bool false))))
    skipS) skipS))
    skipS)))))
    (seqS (frzS [] (retF (kE (.bool true))))
    skipS)))))
theorem e__law_are_tubs : tbl.F wh 60 (k + 1) "_law_are_tubs" = runM 1 6 (m__law_are_tubs wh (tbl.F wh 60 k)) := by kernel_rfl
def m__law_is_rain (wh : Wh) (F : FT) : SF :=
    (seqS (frzS [] (ifS (orT (notT (tstF (valF (isiF .tuple (vV 1))))) (cmpF .NotEq (valF (orElse (lenS 1) (bltF1 .len (vV 1)))) (valF (orElse (lenS 0) (bltF1 .len (vV 0)))))) (seqS (frzS [] (retF (kE (.bool false))))
    skipS) skipS))
    (seqS (frzS [1] (retF (blF (cmpF .Eq (valF (lcF (plainF (vE 1)) [2] (setF 2) (notT (tstF (valF (callF F "_law_within" (argsF [(vE 2), (kE (.int 0)), (kE (.int 1000))]))))) (vE 2))) (valF (lstF (argsF [])))))))
    skipS))
theorem e__law_is_rain : tbl.F wh 60 (k + 1) "_law_is_rain" = runM 2 3 (m__law_is_rain wh (tbl.F wh 60 k)) := by kernel_rfl
def m__law_is_weather (wh : Wh) (F : FT) : SF :=
    (seqS (frzS [] (ifS (orT (notT (tstF (valF (isiF .tuple (vV 1))))) (notT (chainF .LtE .LtE (valF (kE (.int 1))) (valF (orElse (lenS 1) (bltF1 .len (vV 1)))) (valF (kE (.int 4)))))) (seqS (frzS [] (retF (kE (.bool false))))
    skipS) skipS))
    (seqS (frzS [1] (forF (plainF (vE 1)) (setF 2) (seqS (frzS [] (ifS (orT (notT (tstF (valF (isiF .tuple (vV 2))))) (orT (cmpF .NotEq (valF (orElse (lenS 2) (bltF1 .len (vV 2)))) (valF (kE (.int 2)))) (notT (tstF (valF (callF F "_law_within" (argsF [(orElse (ixS 2 (valF (kE (.int 0)))) (ixF (vV 2) (valF (kE (.int 0))))), (kE (.int 0)), (kE (.int 1000))]))))))) (seqS (frzS [] (retF (kE (.bool false))))
    skipS) skipS))
    (seqS (frzS [0] (ifS (notT (tstF (valF (callF F "_law_is_rain" (argsF [(vE 0), (orElse (ixS 2 (valF (kE (.int 1)))) (ixF (vV 2) (valF (kE (.int 1)))))]))))) (seqS (frzS [] (retF (kE (.bool false))))
    skipS) skipS))
    skipS))))
    (seqS (frzS [1] (asgF 3 (lcF (plainF (vE 1)) [2] (setF 2) yesT (orElse (ixS 2 (valF (kE (.int 0)))) (ixF (vV 2) (valF (kE (.int 0))))))))
    (seqS (frzS [] (retF (andE (valF (blF (cmpF .Eq (valF (orElse (ixS 3 (valF (kE (.int 0)))) (ixF (vV 3) (valF (kE (.int 0)))))) (valF (kE (.int 0)))))) (blF (cmpF .Eq (vV 3) (valF (ssF (vV 3))))))))
    skipS))))
theorem e__law_is_weather : tbl.F wh 60 (k + 1) "_law_is_weather" = runM 2 4 (m__law_is_weather wh (tbl.F wh 60 k)) := by kernel_rfl
def m__law_is_beginning (wh : Wh) (F : FT) : SF :=
    (seqS (frzS [] (ifS (orT (notT (tstF (valF (isiF .tuple (vV 1))))) (cmpF .NotEq (valF (orElse (lenS 1) (bltF1 .len (vV 1)))) (valF (orElse (lenS 0) (bltF1 .len (vV 0)))))) (seqS (frzS [] (retF (kE (.bool false))))
    skipS) skipS))
    (seqS (frzS [1] (forF (plainF (vE 1)) (setF 2) (seqS (frzS [] (ifS (orT (notT (tstF (valF (isiF .tuple (vV 2))))) (orT (cmpF .NotEq (valF (orElse (lenS 2) (bltF1 .len (vV 2)))) (valF (kE (.int 2)))) (orT (notT (tstF (valF (callF F "_law_whole" (argsF [(orElse (ixS 2 (valF (kE (.int 0)))) (ixF (vV 2) (valF (kE (.int 0)))))]))))) (notT (tstF (valF (callF F "_law_whole" (argsF [(orElse (ixS 2 (valF (kE (.int 1)))) (ixF (vV 2) (valF (kE (.int 1)))))])))))))) (seqS (frzS [] (retF (kE (.bool false))))
    skipS) skipS))
    (seqS (frzS [] (ifS (orT (cmpF .Lt (valF (orElse (ixS 2 (valF (kE (.int 0)))) (ixF (vV 2) (valF (kE (.int 0)))))) (valF (kE (.int 0)))) (orT (cmpF .Lt (valF (orElse (ixS 2 (valF (kE (.int 1)))) (ixF (vV 2) (valF (kE (.int 1)))))) (valF (kE (.int 1)))) (cmpF .NotEq (valF (callF F "_law_lowest" (argsF [(orElse (ixS 2 (valF (kE (.int 0)))) (ixF (vV 2) (valF (kE (.int 0))))), (orElse (ixS 2 (valF (kE (.int 1)))) (ixF (vV 2) (valF (kE (.int 1)))))]))) (vV 2)))) (seqS (frzS [] (retF (kE (.bool false))))
    skipS) skipS))
    skipS))))
    (seqS (frzS [] (retF (kE (.bool true))))
    skipS)))
theorem e__law_is_beginning : tbl.F wh 60 (k + 1) "_law_is_beginning" = runM 2 3 (m__law_is_beginning wh (tbl.F wh 60 k)) := by kernel_rfl
def m_law (wh : Wh) (F : FT) : SF :=
    (seqS (frzS [] (forF (rangeF (valF (binF .Add (valF (kE (.int 1))) (valF (bltF2 .min2 (valF (orElse (lenS 0) (bltF1 .len (vV 0)))) (valF (kE (.int 30)))))))) (setF 1) (bagF 2 (callF F "_law_bag" (argsF [(vE 0), (vE 1)])) (seqS (frzS [2] (asgF 3 (callF F "_law_tubs" (argsF [(vE 2), (kE (.int 3))]))))
    (seqS (frzS [3, 2, 3, 2, 3] (par3F 4 5 6 (vE 3) (callF F "_law_weather" (argsF [(vE 2), (vE 3)])) (callF F "_law_beginning" (argsF [(vE 2), (vE 3)]))))
    (seqS (frzS [2, 2, 2] (asgF 7 (tupF (argsF [(callF F "_law_of" (argsF [(vE 2), (lstF (argsF [(kE (.int 0)), (kE (.int 1000)), (kE (.int 1001))]))])), (callF F "_law_of" (argsF [(vE 2), (lstF (argsF [(kE (.int 0)), (kE (.int 1)), (kE (.int 100)), (kE (.int 101))]))])), (callF F "_law_of" (argsF [(vE 2), (lstF (argsF [(kE (.str "")), (kE (.str "ann")), (kE (.str "bo"))]))]))]))))
    (seqS (frzS [2, 7] (asgF 8 (tupF (argsF [(tupF (argsF [(kE (.str "ann")), (callF F "_law_of" (argsF [(vE 2), (lstF (argsF [(kE (.int 0)), (kE (.int 1)), (kE (.int 1000)), (kE (.int 1001))]))])), (tupF (argsF [(vE 7)]))])), (tupF (argsF [(kE (.str "bo")), (kE (.int 1)), (tupF (argsF []))]))]))))
    (seqS (frzS [] (asgF 9 (bltF1 .tuple (valF (lcF (plainF (lstF (argsF [(kE (.str "a")), (kE (.str "b")), (kE (.str "c")), (kE (.str "d"))]))) [10] (setF 10) yesT (tupF (argsF [(vE 10), (kE (.int 1)), (tupF (argsF []))])))))))
    (seqS (frzS [9, 8] (asgF 11 (lstF (argsF [(vE 9), (slF (vV 9) (partF none) (partF (some (valF (kE (.int 3)))))), (vE 8), (revF (vV 3)), (binF .Add (vV 3) (valF (slF (vV 3) (partF (some (valF (negE (valF (kE (.int 1))))))) (partF none)))), (bltF1 .list (vV 3)), (binF .Add (vV 5) (vV 5)), (slF (vV 5) (partF (some (valF (kE (.int 1))))) (partF none)), (binF .Mult (valF (slF (vV 5) (partF none) (partF (some (valF (kE (.int 1))))))) (valF (kE (.int 5))))]))))
    (seqS (frzS [2] (forF (plainF (binF .Add (vV 11) (valF (lstF (argsF [(callF F "_law_odd" (argsF [(vE 2)])), (tupF (argsF []))]))))) (setF 12) (seqS (frzS [12, 12, 3, 12, 3, 12] (ifS (orT (cmpF .NotEq (valF (callF F "are_tubs" (argsF [(vE 12)]))) (valF (callF F "_law_are_tubs" (argsF [(vE 12)])))) (cmpF .NotEq (valF (callF F "is_weather" (argsF [(vE 3), (vE 12)]))) (valF (callF F "_law_is_weather" (argsF [(vE 3), (vE 12)]))))) (seqS (frzS [] (retF (kE (.bool false))))
    skipS) skipS))
    (seqS (frzS [3, 12, 3, 12] (ifS (cmpF .NotEq (valF (callF F "is_beginning" (argsF [(vE 3), (vE 12)]))) (valF (callF F "_law_is_beginning" (argsF [(vE 3), (vE 12)])))) (seqS (frzS [] (retF (kE (.bool false))))
    skipS) skipS))
    skipS))))
    (seqS (frzS [] (forF (rangeF (valF (kE (.int 6)))) (setF 13) (seqS (frzS [4, 3, 5, 3, 6] (asgF 14 (lstF (argsF [(callF F "are_tubs" (argsF [(vE 4)])), (callF F "is_weather" (argsF [(vE 3), (vE 5)])), (callF F "is_beginning" (argsF [(vE 3), (vE 6)]))]))))
    (seqS (frzS [14] (ifS (cmpF .NotEq (valF (lcF (plainF (vE 14)) [15] (setF 15) (notT (tstF (valF (isiF .bool (vV 15))))) (vE 15))) (valF (lstF (argsF [])))) (seqS (frzS [] (retF (kE (.bool false))))
    skipS) skipS))
    (seqS (frzS [4, 3, 5, 3, 6] (ifS (cmpF .NotEq (vV 14) (valF (lstF (argsF [(callF F "_law_are_tubs" (argsF [(vE 4)])), (callF F "_law_is_weather" (argsF [(vE 3), (vE 5)])), (callF F "_law_is_beginning" (argsF [(vE 3), (vE 6)]))])))) (seqS (frzS [] (retF (kE (.bool false))))
    skipS) skipS))
    (seqS (frzS [2, 12, 4, 5, 6] (unpF (lcF (plainF (lstF (argsF [(vE 4), (vE 5), (vE 6)]))) [12] (setF 12) yesT (callF F "_law_spoilt" (argsF [(vE 2), (vE 12)]))) (unF [4, 5, 6])))
    skipS))))))
    skipS)))))))))))
    (seqS (frzS [] (retF (kE (.bool true))))
    skipS))
theorem e_law : tbl.F wh 60 (k + 1) "law" = runM 1 16 (m_law wh (tbl.F wh 60 k)) := by kernel_rfl
end K01

set_option maxHeartbeats 4000000
namespace K01
open PySem PySem.Spec PyProof.Rows L2 Iv
/-! ### loops: any end that some number of turns reaches -/
open Classical in
noncomputable def whR : Wh := fun c f env st => if h : ∃ n, (whileN c f n env st).isSome = true then whileN c f (Classical.choose h) env st else none
theorem whR_ok : WhOk whR := fun c f env st r h => by
  unfold whR at h
  split at h
  · rename_i z; exact ⟨_, h⟩
  · cases h
theorem whileN_up (c : TF) (f : SF) : ∀ (n : Nat) (env : Env') (st : BSt) (r : Out × Env' × BSt), whileN c f n env st = some r → ∀ m, n ≤ m → whileN c f m env st = some r
  | 0, _, _, _, h, _, _ => by cases h
  | n + 1, env, st, r, h, 0, hm => by omega
  | n + 1, env, st, r, h, m + 1, hm => by
    obtain ⟨⟨b, s1⟩, e1, h⟩ := bind1 h
    unfold whileN
    rw [e1]
    cases b with
    | false => exact h
    | true =>
      simp only [if_true] at h
      obtain ⟨⟨o, env1, s2⟩, e2, h⟩ := bind1 h
      simp only [Option.bind_some, if_true, e2]
      cases o with
      | nx => exact whileN_up c f n _ _ _ h m (by omega)
      | ct => exact whileN_up c f n _ _ _ h m (by omega)
      | bk => exact h
      | rt r => exact h
theorem whR_eq {c : TF} {f : SF} {n : Nat} {env : Env'} {st : BSt} {r : Out × Env' × BSt} (h : whileN c f n env st = some r) : whR c f env st = some r := by
  unfold whR
  have ex : ∃ n, (whileN c f n env st).isSome = true := ⟨n, by rw [h]; rfl⟩
  rw [dif_pos ex]
  have hc := Classical.choose_spec ex
  generalize Classical.choose ex = m at hc
  obtain ⟨r', e'⟩ := Option.isSome_iff_exists.mp hc
  have a := whileN_up c f n env st r h (max n m) (Nat.le_max_left _ _)
  have b := whileN_up c f m env st r' e' (max n m) (Nat.le_max_right _ _)
  rw [a] at b
  rw [e', ← b]
noncomputable abbrev FF (k : Nat) : FT := tbl.F whR 60 k
variable {k : Nat} {st : BSt}
/-! ### single steps -/
theorem d_fz (d : D) : R.d? (.fz d) = some d := rfl
theorem d_ow (d : D) : R.d? (.ow d) = some d := rfl
theorem dn_fz (d : D) : R.down (.fz d) = .fz d := rfl
theorem dn_ow (d : D) : R.down (.ow d) = .fz d := rfl
theorem dn_bag : R.down .bag = .bag := rfl
theorem dn_scr (ns : List Int) : R.down (.scr ns) = .scr ns := rfl
theorem b_of (b : Bool) : boolOf (.bool b) = some b := rfl
theorem l_list (ds : List D) : blD1 .len (.list ds) = some (.fz (.int ds.length)) := rfl
theorem l_tuple (ds : List D) : blD1 .len (.tuple ds) = some (.fz (.int ds.length)) := rfl
theorem l_str {z : Str} (h : z.length ≤ sizeLine) : blD1 .len (.str z) = some (.fz (.int z.length)) := by
  show (if lenOk z.length then _ else none) = _
  exact if_pos (decide_eq_true h)
theorem l_all (bs : List Bool) : blD1 .all (.list (bs.map .bool)) = some (.fz (.bool (bs.all id))) := by
  show (boolsOf _).map _ = _
  have e : ∀ l : List Bool, boolsOf (l.map PyData.bool) = some l := fun l => by
    induction l with
    | nil => rfl
    | cons b l ih => simp [boolsOf, ih]
  rw [e]; rfl
theorem l_listL (ds : List D) : blD1 .list (.list ds) = some (.ow (.list ds)) := rfl
theorem l_listT (ds : List D) : blD1 .list (.tuple ds) = some (.ow (.list ds)) := rfl
theorem l_tupL (ds : List D) : blD1 .tuple (.list ds) = some (.fz (.tuple ds)) := rfl
theorem l_tupT (ds : List D) : blD1 .tuple (.tuple ds) = some (.fz (.tuple ds)) := rfl
theorem l_abs (i : Int) : blD1 .abs (.int i) = some (.fz (.int (if i < 0 then -i else i))) := rfl
theorem c_lt (i j : Int) : cmpD .Lt (.int i) (.int j) = some (decide (i < j)) := rfl
theorem c_le (i j : Int) : cmpD .LtE (.int i) (.int j) = some (decide (i ≤ j)) := rfl
theorem c_gt (i j : Int) : cmpD .Gt (.int i) (.int j) = some (decide (j < i)) := rfl
theorem c_ge (i j : Int) : cmpD .GtE (.int i) (.int j) = some (decide (j ≤ i)) := rfl
theorem sh_int (i : Int) : SeqAt.shaped (.int i) = true := rfl
theorem sh_bool (i : Bool) : SeqAt.shaped (.bool i) = true := rfl
theorem sh_str {i : Str} (h : PyData.strOk i = true) : SeqAt.shaped (.str i) = true := by
  show (PyData.strOk i && _) = true
  rw [h]; rfl
theorem c_eqI (i j : Int) : cmpD .Eq (.int i) (.int j) = some (i == j) := rfl
theorem c_neI (i j : Int) : cmpD .NotEq (.int i) (.int j) = some (!(i == j)) := rfl
theorem c_eqS {i j : Str} (hi : PyData.strOk i = true) (hj : PyData.strOk j = true) : cmpD .Eq (.str i) (.str j) = some (i == j) := by
  show (if SeqAt.shaped (.str i) && SeqAt.shaped (.str j) then some (PyData.eqv (.str i) (.str j)) else none) = _
  rw [sh_str hi, sh_str hj]; rfl
theorem c_inS (c : Nat) (z : Str) : cmpD .In (.str ⟨#[c]⟩) (.str z) = some (decide (c ∈ z.cps.toList)) := rfl
theorem c_niS (c : Nat) (z : Str) : cmpD .NotIn (.str ⟨#[c]⟩) (.str z) = some (!decide (c ∈ z.cps.toList)) := rfl
theorem i_list (ds : List D) : itemsD (.list ds) = some ds := rfl
theorem i_tuple (ds : List D) : itemsD (.tuple ds) = some ds := rfl
theorem i_str (z : Str) : itemsD (.str z) = some (signsD z) := rfl
theorem x_list (ds : List D) (i : Int) : ixD (.list ds) (.int i) = atI ds i := rfl
theorem x_tuple (ds : List D) (i : Int) : ixD (.tuple ds) (.int i) = atI ds i := rfl
theorem y_list (ds : List D) (a b : Option Int) : slD (.list ds) a b = some (.ow (.list (cutL ds a b))) := rfl
theorem y_tuple (ds : List D) (a b : Option Int) : slD (.tuple ds) a b = some (.fz (.tuple (cutL ds a b))) := rfl
/-! ### whole numbers -/
def isW : D → Bool
  | .int _ => true
  | _ => false
def within (d : D) (a b : Int) : Bool := match d with
  | .int i => decide (a ≤ i) && decide (i ≤ b)
  | _ => false
theorem f_is_whole (d : D) : FF (k + 1) "is_whole" [.fz d] st = some (.fz (.bool (isW d)), st) := by
  unfold FF; rw [e_is_whole]; cases d <;> rfl
theorem f_is_whole_within (d : D) (a b : Int) : FF (k + 2) "is_whole_within" [.fz d, .fz (.int a), .fz (.int b)] st = some (.fz (.bool (within d a b)), st) := by
  unfold FF
  rw [e_is_whole_within]
  have h := fun st => f_is_whole (k := k) (st := st) d
  unfold FF at h
  cases d <;> simp [runM, m_is_whole_within, seqS, frzS, frzs, frz1, retF, andE, valF, callF, argsF, vE, vV, R.down, R.d?, h, boolOf, isW, blF, chainF, cmpD, within]
  rename_i i
  by_cases h1 : a ≤ i <;> simp [h1, skipS]
theorem f_law_whole (d : D) : FF (k + 1) "_law_whole" [.fz d] st = some (.fz (.bool (isW d)), st) := by
  unfold FF; rw [e__law_whole]; cases d <;> rfl
theorem f_law_within (d : D) (a b : Int) : FF (k + 1) "_law_within" [.fz d, .fz (.int a), .fz (.int b)] st = some (.fz (.bool (within d a b)), st) := by
  unfold FF
  rw [e__law_within]
  cases d <;> simp [runM, m__law_within, seqS, frzS, frzs, frz1, retF, andE, valF, callF, argsF, vE, vV, R.down, R.d?, boolOf, isiF, isD, notE, blF, chainF, cmpD, within]
  rename_i i
  by_cases h1 : a ≤ i <;> simp [h1, skipS]
/-! ### comprehensions over plain data -/
theorem lc_map {g : GF} {e : EF} {env0 : Env'} {x : D → D} : ∀ (ds acc : List D), (∀ d ∈ ds, ∃ env1 r, g d env0 = some env1 ∧ e env1 st = some (r, st) ∧ r.d? = some (x d)) → acc.length + ds.length ≤ sizeLine →
    lcLoop g yesT e env0 ds acc st = some (acc ++ ds.map x, st)
  | [], acc, _, _ => by simp [lcLoop]
  | d :: ds, acc, h, hl => by
    obtain ⟨env1, r, h1, h2, h3⟩ := h d List.mem_cons_self
    simp only [List.length_cons] at hl
    have ih := lc_map ds (acc ++ [x d]) (fun y hy => h y (List.mem_cons_of_mem _ hy)) (by simp; omega)
    unfold lcLoop
    simp only [h1, yesT, Option.bind_some, if_true, h2, h3]
    rw [if_pos (by simp; omega), ih]
    simp
theorem lc_filter {g : GF} {t : TF} {e : EF} {env0 : Env'} {p : D → Bool} : ∀ (ds acc : List D), (∀ d ∈ ds, ∃ env1, g d env0 = some env1 ∧ t env1 st = some (p d, st) ∧ (∃ r, e env1 st = some (r, st) ∧ r.d? = some d)) → acc.length + ds.length ≤ sizeLine →
    lcLoop g t e env0 ds acc st = some (acc ++ ds.filter p, st)
  | [], acc, _, _ => by simp [lcLoop]
  | d :: ds, acc, h, hl => by
    obtain ⟨env1, h1, h2, r, h3, h4⟩ := h d List.mem_cons_self
    simp only [List.length_cons] at hl
    unfold lcLoop
    simp only [h1, Option.bind_some, h2]
    cases hp : p d with
    | true =>
      simp only [if_true, h3, Option.bind_some, h4]
      rw [if_pos (by simp; omega), lc_filter ds (acc ++ [d]) (fun y hy => h y (List.mem_cons_of_mem _ hy)) (by simp; omega), List.filter_cons_of_pos hp]
      simp
    | false =>
      simp only [Bool.false_eq_true, if_false]
      rw [lc_filter ds acc (fun y hy => h y (List.mem_cons_of_mem _ hy)) (by omega), List.filter_cons_of_neg (by simp [hp])]
theorem lcF_map {i : IF} {own : List Nat} {g : GF} {e : EF} {env : Env'} {ds : List D} (x : D → D) (hi : i env st = some (ds, st)) (h : ∀ d ∈ ds, ∃ env1 r, g d (wipeE env own) = some env1 ∧ e env1 st = some (r, st) ∧ r.d? = some (x d)) (hl : ds.length ≤ sizeLine) :
    lcF i own g yesT e env st = some (.ow (.list (ds.map x)), st) := by
  unfold lcF
  rw [hi]
  simp only [Option.bind_some]
  rw [lc_map ds [] h (by simpa using hl)]
  rfl
theorem lcF_filter {i : IF} {own : List Nat} {g : GF} {t : TF} {e : EF} {env : Env'} {ds : List D} (p : D → Bool) (hi : i env st = some (ds, st)) (h : ∀ d ∈ ds, ∃ env1, g d (wipeE env own) = some env1 ∧ t env1 st = some (p d, st) ∧ (∃ r, e env1 st = some (r, st) ∧ r.d? = some d)) (hl : ds.length ≤ sizeLine) :
    lcF i own g t e env st = some (.ow (.list (ds.filter p)), st) := by
  unfold lcF
  rw [hi]
  simp only [Option.bind_some]
  rw [lc_filter ds [] h (by simpa using hl)]
  rfl
/-! ### tuples of so many -/
def tupLen (d : D) (a b : Int) : Bool := match d with
  | .tuple ds => decide (a ≤ (ds.length : Int)) && decide ((ds.length : Int) ≤ b)
  | _ => false
theorem f_is_tuple_of (d : D) (a b : Int) : FF (k + 1) "is_tuple_of" [.fz d, .fz (.int a), .fz (.int b)] st = some (.fz (.bool (tupLen d a b)), st) := by
  unfold FF
  rw [e_is_tuple_of]
  cases d <;> simp [runM, m_is_tuple_of, seqS, frzS, frzs, frz1, retF, andE, valF, vE, vV, R.down, R.d?, boolOf, isiF, isD, blF, chainF, cmpD, tupLen, orElse, lenS, bltF1, blD1, skipS]
  rename_i ds
  by_cases h1 : a ≤ (ds.length : Int) <;> simp [h1, skipS]
/-! ### rising -/
def risingI : List Int → Bool
  | x :: y :: r => decide (x < y) && risingI (y :: r)
  | _ => true
theorem zip_rising : ∀ (ns : List Int), (((List.zip ns (ns.drop 1)).map (fun p => decide (p.1 < p.2))).all id) = risingI ns
  | [] => rfl
  | [_] => rfl
  | x :: y :: r => by
    have ih := zip_rising (y :: r)
    simp only [List.drop_succ_cons, List.drop_zero] at ih ⊢
    simp only [List.zip_cons_cons, List.map_cons, List.all_cons, id, risingI]
    rw [ih]
def letters : Str := "abcdefghijklmnopqrstuvwxyz"
def isNm : D → Bool
  | .str z => decide (1 ≤ (z.length : Int)) && decide ((z.length : Int) ≤ 8) && (z.cps.toList.all fun c => decide (c ∈ letters.cps.toList))
  | _ => false
theorem boolsOf_map (l : List Bool) : boolsOf (l.map PyData.bool) = some l := by
  induction l with
  | nil => rfl
  | cons b l ih => simp [boolsOf, ih]
theorem cutL1 {α : Type} (xs : List α) : cutL xs (some 1) none = xs.drop 1 := by
  unfold cutL
  rw [show HT.sIx xs.length 0 (some 1) = min 1 xs.length from HT.sIx_nat xs.length 0 1, HT.sIx_none]
  cases xs with
  | nil => rfl
  | cons x r =>
    have e : min 1 (x :: r).length = 1 := by simp
    rw [e]
    simp
theorem zipD_ints (ns ms : List Int) : zipD (ns.map PyData.int) (ms.map PyData.int) = (List.zip ns ms).map fun p => PyData.tuple [.int p.1, .int p.2] := by
  unfold zipD
  rw [List.zip_map, List.map_map]
  rfl
def ltD : D → D
  | .tuple [.int a, .int b] => .bool (decide (a < b))
  | _ => .none
theorem f_is_rising (ns : List Int) (h : ns.length ≤ 1000) : FF (k + 1) "is_rising" [.fz (.list (ns.map .int))] st = some (.fz (.bool (risingI ns)), st) := by
  unfold FF
  rw [e_is_rising]
  simp only [runM, m_is_rising, seqS, frzS, retF, bltF1, valF, List.length_cons, List.length_nil, List.map_cons, List.map_nil, if_true]
  rw [lcF_map ltD (ds := (List.zip ns (ns.drop 1)).map fun p => PyData.tuple [.int p.1, .int p.2])]
  · simp only [Option.bind_some, R.d?, Option.map_some, blD1]
    have e : ((List.zip ns (ns.drop 1)).map fun p => PyData.tuple [.int p.1, .int p.2]).map ltD = ((List.zip ns (ns.drop 1)).map (fun p => decide (p.1 < p.2))).map PyData.bool := by
      rw [List.map_map, List.map_map]; rfl
    rw [e, boolsOf_map]
    simp only [Option.map_some, Option.bind_some, zip_rising]
  · simp only [zipF, vE, slF, vV, partF, kE, valF, frzs, frz1, R.d?, slD, List.cons_append, List.nil_append, List.getElem?_cons_zero, Option.bind_some, Option.map_some, cutL1]
    rw [← List.map_drop, zipD_ints]
  · intro d hd
    obtain ⟨p, _, rfl⟩ := List.mem_map.mp hd
    exact ⟨_, _, rfl, rfl, rfl⟩
  · have : sizeLine = 16777216 := sizeLine_eq
    simp; omega
theorem signs_len (z : Str) : (signsD z).length = z.length := by unfold signsD; simp [Str.length]
theorem f_is_name (d : D) (h : ∀ z, d = .str z → z.length ≤ sizeLine) : FF (k + 1) "is_name" [.fz d] st = some (.fz (.bool (isNm d)), st) := by
  unfold FF
  rw [e_is_name]
  cases d with
  | str z =>
    have hz := h z rfl
    by_cases h1 : 1 ≤ (z.length : Int)
    · by_cases h2 : (z.length : Int) ≤ 8
      · simp only [m_is_name, l_str hz, h1, h2, runM, seqS, frzS, frzs, frz1, retF, retS, ifS, skipS, andE, orE, notE, ifE, valF, vE, vV, kE, kV', callF, argsF, dn_fz, dn_ow, dn_bag, dn_scr, d_fz, d_ow, b_of, isiF, isD, blF, cmpF, chainF, orElse, lenS, bltF1, notT, andT, orT, tstF, l_list, l_tuple, l_all, l_listL, l_listT, l_tupL, l_tupT, l_abs, c_lt, c_le, c_gt, c_ge, c_eqI, c_neI, c_inS, c_niS, i_list, i_tuple, i_str, x_list, x_tuple, plainF, ixF, ixS, asgF, unpF, unF, setAll, List.length_cons, List.length_nil, List.map_cons, List.map_nil, if_true, if_false, List.cons_append, List.nil_append, List.append_nil, List.getElem?_cons_zero, List.getElem?_cons_succ, List.replicate, List.set_cons_zero, List.set_cons_succ, Option.bind_some, Option.map_some, Option.bind_none, Option.map_none, Bool.not_true, Bool.not_false, Bool.false_eq_true, Bool.or_false, Bool.or_true, Nat.reduceAdd, Nat.reduceSub, Nat.zero_add, decide_true, decide_false, Bool.true_and, Bool.false_and, Bool.and_true, Bool.and_false]
        rw [lcF_map (fun d => match d with | .str x => .bool (decide (x.cps.getD 0 0 ∈ letters.cps.toList)) | _ => .none) (ds := signsD z)]
        · simp only [runM, seqS, frzS, frzs, frz1, retF, retS, ifS, skipS, andE, orE, notE, ifE, valF, vE, vV, kE, kV', callF, argsF, dn_fz, dn_ow, dn_bag, dn_scr, d_fz, d_ow, b_of, isiF, isD, blF, cmpF, chainF, orElse, lenS, bltF1, notT, andT, orT, tstF, l_list, l_tuple, l_all, l_listL, l_listT, l_tupL, l_tupT, l_abs, c_lt, c_le, c_gt, c_ge, c_eqI, c_neI, c_inS, c_niS, i_list, i_tuple, i_str, x_list, x_tuple, plainF, ixF, ixS, asgF, unpF, unF, setAll, List.length_cons, List.length_nil, List.map_cons, List.map_nil, if_true, if_false, List.cons_append, List.nil_append, List.append_nil, List.getElem?_cons_zero, List.getElem?_cons_succ, List.replicate, List.set_cons_zero, List.set_cons_succ, Option.bind_some, Option.map_some, Option.bind_none, Option.map_none, Bool.not_true, Bool.not_false, Bool.false_eq_true, Bool.or_false, Bool.or_true, Nat.reduceAdd, Nat.reduceSub, Nat.zero_add, decide_true, decide_false, Bool.true_and, Bool.false_and, Bool.and_true, Bool.and_false]
          have e : ((signsD z).map fun d => match d with | .str x => PyData.bool (decide (x.cps.getD 0 0 ∈ letters.cps.toList)) | _ => .none) = (z.cps.toList.map fun c => decide (c ∈ letters.cps.toList)).map PyData.bool := by
            unfold signsD
            rw [List.map_map, List.map_map]
            rfl
          rw [e, l_all]
          simp only [runM, seqS, frzS, frzs, frz1, retF, retS, ifS, skipS, andE, orE, notE, ifE, valF, vE, vV, kE, kV', callF, argsF, dn_fz, dn_ow, dn_bag, dn_scr, d_fz, d_ow, b_of, isiF, isD, blF, cmpF, chainF, orElse, lenS, bltF1, notT, andT, orT, tstF, l_list, l_tuple, l_all, l_listL, l_listT, l_tupL, l_tupT, l_abs, c_lt, c_le, c_gt, c_ge, c_eqI, c_neI, c_inS, c_niS, i_list, i_tuple, i_str, x_list, x_tuple, plainF, ixF, ixS, asgF, unpF, unF, setAll, List.length_cons, List.length_nil, List.map_cons, List.map_nil, if_true, if_false, List.cons_append, List.nil_append, List.append_nil, List.getElem?_cons_zero, List.getElem?_cons_succ, List.replicate, List.set_cons_zero, List.set_cons_succ, Option.bind_some, Option.map_some, Option.bind_none, Option.map_none, Bool.not_true, Bool.not_false, Bool.false_eq_true, Bool.or_false, Bool.or_true, Nat.reduceAdd, Nat.reduceSub, Nat.zero_add, decide_true, decide_false, Bool.true_and, Bool.false_and, Bool.and_true, Bool.and_false, isNm, h1, h2, List.all_map]
          rfl
        · simp only [runM, seqS, frzS, frzs, frz1, retF, retS, ifS, skipS, andE, orE, notE, ifE, valF, vE, vV, kE, kV', callF, argsF, dn_fz, dn_ow, dn_bag, dn_scr, d_fz, d_ow, b_of, isiF, isD, blF, cmpF, chainF, orElse, lenS, bltF1, notT, andT, orT, tstF, l_list, l_tuple, l_all, l_listL, l_listT, l_tupL, l_tupT, l_abs, c_lt, c_le, c_gt, c_ge, c_eqI, c_neI, c_inS, c_niS, i_list, i_tuple, i_str, x_list, x_tuple, plainF, ixF, ixS, asgF, unpF, unF, setAll, List.length_cons, List.length_nil, List.map_cons, List.map_nil, if_true, if_false, List.cons_append, List.nil_append, List.append_nil, List.getElem?_cons_zero, List.getElem?_cons_succ, List.replicate, List.set_cons_zero, List.set_cons_succ, Option.bind_some, Option.map_some, Option.bind_none, Option.map_none, Bool.not_true, Bool.not_false, Bool.false_eq_true, Bool.or_false, Bool.or_true, Nat.reduceAdd, Nat.reduceSub, Nat.zero_add, decide_true, decide_false, Bool.true_and, Bool.false_and, Bool.and_true, Bool.and_false]
        · intro d hd
          obtain ⟨c, _, rfl⟩ := List.mem_map.mp hd
          exact ⟨_, _, rfl, rfl, rfl⟩
        · rw [signs_len]; exact hz
      · simp only [m_is_name, l_str hz, h1, h2, runM, seqS, frzS, frzs, frz1, retF, retS, ifS, skipS, andE, orE, notE, ifE, valF, vE, vV, kE, kV', callF, argsF, dn_fz, dn_ow, dn_bag, dn_scr, d_fz, d_ow, b_of, isiF, isD, blF, cmpF, chainF, orElse, lenS, bltF1, notT, andT, orT, tstF, l_list, l_tuple, l_all, l_listL, l_listT, l_tupL, l_tupT, l_abs, c_lt, c_le, c_gt, c_ge, c_eqI, c_neI, c_inS, c_niS, i_list, i_tuple, i_str, x_list, x_tuple, plainF, ixF, ixS, asgF, unpF, unF, setAll, List.length_cons, List.length_nil, List.map_cons, List.map_nil, if_true, if_false, List.cons_append, List.nil_append, List.append_nil, List.getElem?_cons_zero, List.getElem?_cons_succ, List.replicate, List.set_cons_zero, List.set_cons_succ, Option.bind_some, Option.map_some, Option.bind_none, Option.map_none, Bool.not_true, Bool.not_false, Bool.false_eq_true, Bool.or_false, Bool.or_true, Nat.reduceAdd, Nat.reduceSub, Nat.zero_add, decide_true, decide_false, Bool.true_and, Bool.false_and, Bool.and_true, Bool.and_false, isNm]
    · simp only [m_is_name, l_str hz, h1, runM, seqS, frzS, frzs, frz1, retF, retS, ifS, skipS, andE, orE, notE, ifE, valF, vE, vV, kE, kV', callF, argsF, dn_fz, dn_ow, dn_bag, dn_scr, d_fz, d_ow, b_of, isiF, isD, blF, cmpF, chainF, orElse, lenS, bltF1, notT, andT, orT, tstF, l_list, l_tuple, l_all, l_listL, l_listT, l_tupL, l_tupT, l_abs, c_lt, c_le, c_gt, c_ge, c_eqI, c_neI, c_inS, c_niS, i_list, i_tuple, i_str, x_list, x_tuple, plainF, ixF, ixS, asgF, unpF, unF, setAll, List.length_cons, List.length_nil, List.map_cons, List.map_nil, if_true, if_false, List.cons_append, List.nil_append, List.append_nil, List.getElem?_cons_zero, List.getElem?_cons_succ, List.replicate, List.set_cons_zero, List.set_cons_succ, Option.bind_some, Option.map_some, Option.bind_none, Option.map_none, Bool.not_true, Bool.not_false, Bool.false_eq_true, Bool.or_false, Bool.or_true, Nat.reduceAdd, Nat.reduceSub, Nat.zero_add, decide_true, decide_false, Bool.true_and, Bool.false_and, Bool.and_true, Bool.and_false, isNm]
  | _ => rfl
/-! ### the greatest common divisor -/
theorem gcd_loop (c : TF) (f : SF) (hc : ∀ (a b : Nat), c [some (.fz (.int a)), some (.fz (.int b))] st = some (!((b : Int) == 0), st))
    (hf : ∀ (a b : Nat), 0 < b → f [some (.fz (.int a)), some (.fz (.int b))] st = some (.nx, [some (.fz (.int b)), some (.fz (.int ((a % b : Nat) : Int)))], st)) :
    ∀ (b a : Nat), ∃ n, whileN c f n [some (.fz (.int a)), some (.fz (.int b))] st = some (.nx, [some (.fz (.int ((Nat.gcd a b : Nat) : Int))), some (.fz (.int 0))], st) := by
  intro b
  induction b using Nat.strongRecOn with
  | _ b ih =>
    intro a
    by_cases h : b = 0
    · subst h
      refine ⟨1, ?_⟩
      unfold whileN
      rw [hc]
      simp
    · have hb : 0 < b := by omega
      obtain ⟨n, hn⟩ := ih (a % b) (Nat.mod_lt _ hb) b
      refine ⟨n + 1, ?_⟩
      unfold whileN
      rw [hc]
      have e : (!((b : Int) == 0)) = true := by simp; omega
      simp only [Option.bind_some, e, if_true, hf a b hb]
      rw [hn, Nat.gcd_comm a b, Nat.gcd_rec b a, Nat.gcd_comm (a % b) b]
theorem mod_int (a b : Nat) (h : 0 < b) : binD .Mod (.int a) (.int b) = some (.fz (.int ((a % b : Nat) : Int))) := by
  show (if decide ((0 : Int) < b) then _ else none) = _
  rw [if_pos (decide_eq_true (by omega))]
  rfl
theorem seq_nx {f g : SF} {env env1 : Env'} {st st1 : BSt} (h : f env st = some (.nx, env1, st1)) : seqS f g env st = g env1 st1 := by unfold seqS; rw [h]; rfl
theorem seq_rt {f g : SF} {env env1 : Env'} {st st1 : BSt} {r : R} (h : f env st = some (.rt r, env1, st1)) : seqS f g env st = some (.rt r, env1, st1) := by unfold seqS; rw [h]; rfl
theorem run_rt {m n : Nat} {f : SF} {rs : List R} {st st1 : BSt} {env1 : Env'} {r : R} (hl : rs.length = m) (h : f (rs.map some ++ List.replicate (n - rs.length) none) st = some (.rt r, env1, st1)) : runM m n f rs st = some (r, st1) := by
  unfold runM; rw [if_pos hl, h]; rfl
theorem f_gcd (a b : Nat) : FF (k + 1) "common_divisor" [.fz (.int a), .fz (.int b)] st = some (.fz (.int ((Nat.gcd a b : Nat) : Int)), st) := by
  unfold FF
  rw [e_common_divisor]
  have key : ∃ n, whileN (cmpF .NotEq (vV 1) (valF (kE (.int 0)))) (seqS (frzS [1] (par2F 0 1 (vE 1) (binF .Mod (vV 0) (vV 1)))) skipS) n [some (.fz (.int a)), some (.fz (.int b))] st = some (.nx, [some (.fz (.int ((Nat.gcd a b : Nat) : Int))), some (.fz (.int 0))], st) := by
    refine gcd_loop _ _ (fun a b => ?_) (fun a b h => ?_) b a
    · simp only [runM, seqS, frzS, frzs, frz1, retF, retS, ifS, skipS, andE, orE, notE, ifE, valF, vE, vV, kE, kV', callF, argsF, dn_fz, dn_ow, dn_bag, dn_scr, d_fz, d_ow, b_of, isiF, isD, blF, cmpF, chainF, orElse, lenS, bltF1, notT, andT, orT, tstF, l_list, l_tuple, l_all, l_listL, l_listT, l_tupL, l_tupT, l_abs, c_lt, c_le, c_gt, c_ge, c_eqI, c_neI, c_inS, c_niS, i_list, i_tuple, i_str, x_list, x_tuple, plainF, ixF, ixS, asgF, unpF, unF, setAll, List.length_cons, List.length_nil, List.map_cons, List.map_nil, if_true, if_false, List.cons_append, List.nil_append, List.append_nil, List.getElem?_cons_zero, List.getElem?_cons_succ, List.replicate, List.set_cons_zero, List.set_cons_succ, Option.bind_some, Option.map_some, Option.bind_none, Option.map_none, Bool.not_true, Bool.not_false, Bool.false_eq_true, Bool.or_false, Bool.or_true, Nat.reduceAdd, Nat.reduceSub, Nat.zero_add, decide_true, decide_false, Bool.true_and, Bool.false_and, Bool.and_true, Bool.and_false]
    · simp only [runM, seqS, frzS, frzs, frz1, retF, retS, ifS, skipS, andE, orE, notE, ifE, valF, vE, vV, kE, kV', callF, argsF, dn_fz, dn_ow, dn_bag, dn_scr, d_fz, d_ow, b_of, isiF, isD, blF, cmpF, chainF, orElse, lenS, bltF1, notT, andT, orT, tstF, l_list, l_tuple, l_all, l_listL, l_listT, l_tupL, l_tupT, l_abs, c_lt, c_le, c_gt, c_ge, c_eqI, c_neI, c_inS, c_niS, i_list, i_tuple, i_str, x_list, x_tuple, plainF, ixF, ixS, asgF, unpF, unF, setAll, List.length_cons, List.length_nil, List.map_cons, List.map_nil, if_true, if_false, List.cons_append, List.nil_append, List.append_nil, List.getElem?_cons_zero, List.getElem?_cons_succ, List.replicate, List.set_cons_zero, List.set_cons_succ, Option.bind_some, Option.map_some, Option.bind_none, Option.map_none, Bool.not_true, Bool.not_false, Bool.false_eq_true, Bool.or_false, Bool.or_true, Nat.reduceAdd, Nat.reduceSub, Nat.zero_add, decide_true, decide_false, Bool.true_and, Bool.false_and, Bool.and_true, Bool.and_false, par2F, binF, mod_int a b h]
  obtain ⟨n, hn⟩ := key
  exact run_rt (env1 := [some (.fz (.int ((Nat.gcd a b : Nat) : Int))), some (.fz (.int 0))]) rfl ((seq_nx (f := frzS [] (whR _ _)) (whR_eq hn)).trans rfl)
/-! ### fractions -/
def isFr : D → Bool
  | .tuple [.int t, .int b] => decide (0 ≤ t) && (decide (1 ≤ b) && decide (Nat.gcd t.toNat b.toNat = 1))
  | _ => false
theorem nat_of {i : Int} (h : 0 ≤ i) : ((i.toNat : Nat) : Int) = i := by omega
theorem f_is_fraction (d : D) : FF (k + 2) "is_fraction" [.fz d] st = some (.fz (.bool (isFr d)), st) := by
  unfold FF
  rw [e_is_fraction]
  have hw := fun st d => f_is_whole (k := k) (st := st) d
  unfold FF at hw
  cases d with
  | tuple ds =>
    match ds with
    | [] => simp [m_is_fraction, runM, seqS, frzS, frzs, frz1, retF, retS, ifS, skipS, andE, orE, notE, ifE, valF, vE, vV, kE, kV', callF, argsF, dn_fz, dn_ow, dn_bag, dn_scr, d_fz, d_ow, b_of, isiF, isD, blF, cmpF, chainF, orElse, lenS, bltF1, notT, andT, orT, tstF, l_list, l_tuple, l_all, l_listL, l_listT, l_tupL, l_tupT, l_abs, c_lt, c_le, c_gt, c_ge, c_eqI, c_neI, c_inS, c_niS, i_list, i_tuple, i_str, x_list, x_tuple, plainF, ixF, ixS, asgF, unpF, unF, setAll, List.length_cons, List.length_nil, List.map_cons, List.map_nil, if_true, if_false, List.cons_append, List.nil_append, List.append_nil, List.getElem?_cons_zero, List.getElem?_cons_succ, List.replicate, List.set_cons_zero, List.set_cons_succ, Option.bind_some, Option.map_some, Option.bind_none, Option.map_none, Bool.not_true, Bool.not_false, Bool.false_eq_true, Bool.or_false, Bool.or_true, Nat.reduceAdd, Nat.reduceSub, Nat.zero_add, decide_true, decide_false, Bool.true_and, Bool.false_and, Bool.and_true, Bool.and_false, isFr]
    | [a] => simp [m_is_fraction, runM, seqS, frzS, frzs, frz1, retF, retS, ifS, skipS, andE, orE, notE, ifE, valF, vE, vV, kE, kV', callF, argsF, dn_fz, dn_ow, dn_bag, dn_scr, d_fz, d_ow, b_of, isiF, isD, blF, cmpF, chainF, orElse, lenS, bltF1, notT, andT, orT, tstF, l_list, l_tuple, l_all, l_listL, l_listT, l_tupL, l_tupT, l_abs, c_lt, c_le, c_gt, c_ge, c_eqI, c_neI, c_inS, c_niS, i_list, i_tuple, i_str, x_list, x_tuple, plainF, ixF, ixS, asgF, unpF, unF, setAll, List.length_cons, List.length_nil, List.map_cons, List.map_nil, if_true, if_false, List.cons_append, List.nil_append, List.append_nil, List.getElem?_cons_zero, List.getElem?_cons_succ, List.replicate, List.set_cons_zero, List.set_cons_succ, Option.bind_some, Option.map_some, Option.bind_none, Option.map_none, Bool.not_true, Bool.not_false, Bool.false_eq_true, Bool.or_false, Bool.or_true, Nat.reduceAdd, Nat.reduceSub, Nat.zero_add, decide_true, decide_false, Bool.true_and, Bool.false_and, Bool.and_true, Bool.and_false, isFr]
    | a :: b :: c :: r =>
      have e : ¬ ((r.length : Int) + 1 + 1 + 1 = 2) := by omega
      simp [m_is_fraction, runM, seqS, frzS, frzs, frz1, retF, retS, ifS, skipS, andE, orE, notE, ifE, valF, vE, vV, kE, kV', callF, argsF, dn_fz, dn_ow, dn_bag, dn_scr, d_fz, d_ow, b_of, isiF, isD, blF, cmpF, chainF, orElse, lenS, bltF1, notT, andT, orT, tstF, l_list, l_tuple, l_all, l_listL, l_listT, l_tupL, l_tupT, l_abs, c_lt, c_le, c_gt, c_ge, c_eqI, c_neI, c_inS, c_niS, i_list, i_tuple, i_str, x_list, x_tuple, plainF, ixF, ixS, asgF, unpF, unF, setAll, List.length_cons, List.length_nil, List.map_cons, List.map_nil, if_true, if_false, List.cons_append, List.nil_append, List.append_nil, List.getElem?_cons_zero, List.getElem?_cons_succ, List.replicate, List.set_cons_zero, List.set_cons_succ, Option.bind_some, Option.map_some, Option.bind_none, Option.map_none, Bool.not_true, Bool.not_false, Bool.false_eq_true, Bool.or_false, Bool.or_true, Nat.reduceAdd, Nat.reduceSub, Nat.zero_add, decide_true, decide_false, Bool.true_and, Bool.false_and, Bool.and_true, Bool.and_false, e, isFr]
    | [a, b] =>
      cases a with
      | int t =>
        cases b with
        | int b =>
          by_cases h1 : 0 ≤ t
          · by_cases h2 : 1 ≤ b
            · have hg := f_gcd (k := k) (st := st) t.toNat b.toNat
              unfold FF at hg
              rw [nat_of h1, nat_of (show 0 ≤ b by omega)] at hg
              simp [m_is_fraction, runM, seqS, frzS, frzs, frz1, retF, retS, ifS, skipS, andE, orE, notE, ifE, valF, vE, vV, kE, kV', callF, argsF, dn_fz, dn_ow, dn_bag, dn_scr, d_fz, d_ow, b_of, isiF, isD, blF, cmpF, chainF, orElse, lenS, bltF1, notT, andT, orT, tstF, l_list, l_tuple, l_all, l_listL, l_listT, l_tupL, l_tupT, l_abs, c_lt, c_le, c_gt, c_ge, c_eqI, c_neI, c_inS, c_niS, i_list, i_tuple, i_str, x_list, x_tuple, plainF, ixF, ixS, asgF, unpF, unF, setAll, List.length_cons, List.length_nil, List.map_cons, List.map_nil, if_true, if_false, List.cons_append, List.nil_append, List.append_nil, List.getElem?_cons_zero, List.getElem?_cons_succ, List.replicate, List.set_cons_zero, List.set_cons_succ, Option.bind_some, Option.map_some, Option.bind_none, Option.map_none, Bool.not_true, Bool.not_false, Bool.false_eq_true, Bool.or_false, Bool.or_true, Nat.reduceAdd, Nat.reduceSub, Nat.zero_add, decide_true, decide_false, Bool.true_and, Bool.false_and, Bool.and_true, Bool.and_false, hw, isW, hg, h1, h2, isFr]
              rw [Bool.eq_iff_iff]
              simp
              try omega
            · simp [m_is_fraction, runM, seqS, frzS, frzs, frz1, retF, retS, ifS, skipS, andE, orE, notE, ifE, valF, vE, vV, kE, kV', callF, argsF, dn_fz, dn_ow, dn_bag, dn_scr, d_fz, d_ow, b_of, isiF, isD, blF, cmpF, chainF, orElse, lenS, bltF1, notT, andT, orT, tstF, l_list, l_tuple, l_all, l_listL, l_listT, l_tupL, l_tupT, l_abs, c_lt, c_le, c_gt, c_ge, c_eqI, c_neI, c_inS, c_niS, i_list, i_tuple, i_str, x_list, x_tuple, plainF, ixF, ixS, asgF, unpF, unF, setAll, List.length_cons, List.length_nil, List.map_cons, List.map_nil, if_true, if_false, List.cons_append, List.nil_append, List.append_nil, List.getElem?_cons_zero, List.getElem?_cons_succ, List.replicate, List.set_cons_zero, List.set_cons_succ, Option.bind_some, Option.map_some, Option.bind_none, Option.map_none, Bool.not_true, Bool.not_false, Bool.false_eq_true, Bool.or_false, Bool.or_true, Nat.reduceAdd, Nat.reduceSub, Nat.zero_add, decide_true, decide_false, Bool.true_and, Bool.false_and, Bool.and_true, Bool.and_false, hw, isW, h1, h2, isFr]
          · simp [m_is_fraction, runM, seqS, frzS, frzs, frz1, retF, retS, ifS, skipS, andE, orE, notE, ifE, valF, vE, vV, kE, kV', callF, argsF, dn_fz, dn_ow, dn_bag, dn_scr, d_fz, d_ow, b_of, isiF, isD, blF, cmpF, chainF, orElse, lenS, bltF1, notT, andT, orT, tstF, l_list, l_tuple, l_all, l_listL, l_listT, l_tupL, l_tupT, l_abs, c_lt, c_le, c_gt, c_ge, c_eqI, c_neI, c_inS, c_niS, i_list, i_tuple, i_str, x_list, x_tuple, plainF, ixF, ixS, asgF, unpF, unF, setAll, List.length_cons, List.length_nil, List.map_cons, List.map_nil, if_true, if_false, List.cons_append, List.nil_append, List.append_nil, List.getElem?_cons_zero, List.getElem?_cons_succ, List.replicate, List.set_cons_zero, List.set_cons_succ, Option.bind_some, Option.map_some, Option.bind_none, Option.map_none, Bool.not_true, Bool.not_false, Bool.false_eq_true, Bool.or_false, Bool.or_true, Nat.reduceAdd, Nat.reduceSub, Nat.zero_add, decide_true, decide_false, Bool.true_and, Bool.false_and, Bool.and_true, Bool.and_false, hw, isW, h1, isFr]
        | _ => simp [m_is_fraction, runM, seqS, frzS, frzs, frz1, retF, retS, ifS, skipS, andE, orE, notE, ifE, valF, vE, vV, kE, kV', callF, argsF, dn_fz, dn_ow, dn_bag, dn_scr, d_fz, d_ow, b_of, isiF, isD, blF, cmpF, chainF, orElse, lenS, bltF1, notT, andT, orT, tstF, l_list, l_tuple, l_all, l_listL, l_listT, l_tupL, l_tupT, l_abs, c_lt, c_le, c_gt, c_ge, c_eqI, c_neI, c_inS, c_niS, i_list, i_tuple, i_str, x_list, x_tuple, plainF, ixF, ixS, asgF, unpF, unF, setAll, List.length_cons, List.length_nil, List.map_cons, List.map_nil, if_true, if_false, List.cons_append, List.nil_append, List.append_nil, List.getElem?_cons_zero, List.getElem?_cons_succ, List.replicate, List.set_cons_zero, List.set_cons_succ, Option.bind_some, Option.map_some, Option.bind_none, Option.map_none, Bool.not_true, Bool.not_false, Bool.false_eq_true, Bool.or_false, Bool.or_true, Nat.reduceAdd, Nat.reduceSub, Nat.zero_add, decide_true, decide_false, Bool.true_and, Bool.false_and, Bool.and_true, Bool.and_false, hw, isW, isFr]
      | _ => simp [m_is_fraction, runM, seqS, frzS, frzs, frz1, retF, retS, ifS, skipS, andE, orE, notE, ifE, valF, vE, vV, kE, kV', callF, argsF, dn_fz, dn_ow, dn_bag, dn_scr, d_fz, d_ow, b_of, isiF, isD, blF, cmpF, chainF, orElse, lenS, bltF1, notT, andT, orT, tstF, l_list, l_tuple, l_all, l_listL, l_listT, l_tupL, l_tupT, l_abs, c_lt, c_le, c_gt, c_ge, c_eqI, c_neI, c_inS, c_niS, i_list, i_tuple, i_str, x_list, x_tuple, plainF, ixF, ixS, asgF, unpF, unF, setAll, List.length_cons, List.length_nil, List.map_cons, List.map_nil, if_true, if_false, List.cons_append, List.nil_append, List.append_nil, List.getElem?_cons_zero, List.getElem?_cons_succ, List.replicate, List.set_cons_zero, List.set_cons_succ, Option.bind_some, Option.map_some, Option.bind_none, Option.map_none, Bool.not_true, Bool.not_false, Bool.false_eq_true, Bool.or_false, Bool.or_true, Nat.reduceAdd, Nat.reduceSub, Nat.zero_add, decide_true, decide_false, Bool.true_and, Bool.false_and, Bool.and_true, Bool.and_false, hw, isW, isFr]
  | _ => rfl
end K01

set_option maxHeartbeats 4000000
namespace K01
open PySem PySem.Spec PyProof.Rows L2 Iv
variable {k : Nat} {st : BSt}
theorem ar_nil (env : Env') (st : BSt) : argsF [] env st = some ([], st) := rfl
theorem ar_cons (f : EF) (fs : List EF) (env : Env') (st : BSt) : argsF (f :: fs) env st = (f env st).bind fun p => (argsF fs env p.2).map fun q => (p.1.down :: q.1, q.2) := rfl
/-! ### good data -/
mutual
def gd : D → Bool
  | .none => true
  | .bool _ => true
  | .int i => decide (i.natAbs < 2 ^ 1000)
  | .str z => decide (z.length ≤ 1000) && PyData.strOk z
  | .list xs => decide (xs.length ≤ 1000) && gdAll xs
  | .tuple xs => decide (xs.length ≤ 1000) && gdAll xs
  | .dict _ => false
def gdAll : List D → Bool
  | [] => true
  | x :: xs => gd x && gdAll xs
end
theorem gdAll_mem : ∀ {xs : List D}, gdAll xs = true → ∀ d ∈ xs, gd d = true
  | x :: xs, h, d, hd => by
    simp only [gdAll, Bool.and_eq_true] at h
    rcases List.mem_cons.mp hd with rfl | hd
    · exact h.1
    · exact gdAll_mem h.2 d hd
theorem line1000 {n : Nat} (h : n ≤ 1000) : n ≤ sizeLine := by rw [sizeLine_eq]; omega
theorem gd_str {z : Str} (h : gd (.str z) = true) : z.length ≤ sizeLine ∧ PyData.strOk z = true := by
  simp only [gd, Bool.and_eq_true, decide_eq_true_eq] at h
  exact ⟨line1000 h.1, h.2⟩
theorem gd_tup {xs : List D} (h : gd (.tuple xs) = true) : xs.length ≤ sizeLine ∧ ∀ d ∈ xs, gd d = true := by
  simp only [gd, Bool.and_eq_true, decide_eq_true_eq] at h
  exact ⟨line1000 h.1, gdAll_mem h.2⟩
/-! ### holes -/
def isWy : D → Bool
  | .str z => isNm (.str z) || (z == "")
  | _ => false
theorem f_is_way (d : D) (h : gd d = true) : FF (k + 2) "is_way" [.fz d] st = some (.fz (.bool (isWy d)), st) := by
  unfold FF
  rw [e_is_way]
  cases d with
  | str z =>
    have hz := gd_str h
    have hn := f_is_name (k := k) (st := st) (.str z) (fun y e => by cases e; exact hz.1)
    unfold FF at hn
    have hc : cmpD .Eq (.str z) (.str "") = some (z == "") := c_eqS hz.2 (by decide +kernel)
    cases hh : isNm (.str z) <;> simp [m_is_way, runM, seqS, frzS, frzs, frz1, retF, retS, ifS, skipS, andE, orE, notE, ifE, valF, vE, vV, kE, kV', callF, ar_nil, ar_cons, dn_fz, dn_ow, dn_bag, dn_scr, d_fz, d_ow, b_of, isiF, isD, blF, cmpF, chainF, orElse, lenS, bltF1, notT, andT, orT, tstF, l_list, l_tuple, l_all, l_listL, l_listT, l_tupL, l_tupT, l_abs, c_lt, c_le, c_gt, c_ge, c_eqI, c_neI, c_inS, c_niS, i_list, i_tuple, i_str, x_list, x_tuple, plainF, ixF, ixS, asgF, unpF, unF, setAll, List.length_cons, List.length_nil, List.map_cons, List.map_nil, if_true, if_false, List.cons_append, List.nil_append, List.append_nil, List.getElem?_cons_zero, List.getElem?_cons_succ, List.replicate, List.set_cons_zero, List.set_cons_succ, Option.bind_some, Option.map_some, Option.bind_none, Option.map_none, Bool.not_true, Bool.not_false, Bool.false_eq_true, Bool.or_false, Bool.or_true, Nat.reduceAdd, Nat.reduceSub, Nat.zero_add, decide_true, decide_false, Bool.true_and, Bool.false_and, Bool.and_true, Bool.and_false, hn, hh, hc, isWy]
  | _ =>
    have hn := fun d h => f_is_name (k := k) (st := st) d h
    unfold FF at hn
    simp [m_is_way, runM, seqS, frzS, frzs, frz1, retF, retS, ifS, skipS, andE, orE, notE, ifE, valF, vE, vV, kE, kV', callF, ar_nil, ar_cons, dn_fz, dn_ow, dn_bag, dn_scr, d_fz, d_ow, b_of, isiF, isD, blF, cmpF, chainF, orElse, lenS, bltF1, notT, andT, orT, tstF, l_list, l_tuple, l_all, l_listL, l_listT, l_tupL, l_tupT, l_abs, c_lt, c_le, c_gt, c_ge, c_eqI, c_neI, c_inS, c_niS, i_list, i_tuple, i_str, x_list, x_tuple, plainF, ixF, ixS, asgF, unpF, unF, setAll, List.length_cons, List.length_nil, List.map_cons, List.map_nil, if_true, if_false, List.cons_append, List.nil_append, List.append_nil, List.getElem?_cons_zero, List.getElem?_cons_succ, List.replicate, List.set_cons_zero, List.set_cons_succ, Option.bind_some, Option.map_some, Option.bind_none, Option.map_none, Bool.not_true, Bool.not_false, Bool.false_eq_true, Bool.or_false, Bool.or_true, Nat.reduceAdd, Nat.reduceSub, Nat.zero_add, decide_true, decide_false, Bool.true_and, Bool.false_and, Bool.and_true, Bool.and_false, hn, isNm, isWy]
def isHl : D → Bool
  | .tuple [h, r, i] => within h 0 1000 && (within r 1 100 && isWy i)
  | _ => false
theorem tup3 (ds : List D) : tupLen (.tuple ds) 3 3 = decide (ds.length = 3) := by
  unfold tupLen
  rw [Bool.eq_iff_iff]
  simp
  omega
theorem f_is_hole (d : D) (h : gd d = true) : FF (k + 3) "is_hole" [.fz d] st = some (.fz (.bool (isHl d)), st) := by
  unfold FF
  rw [e_is_hole]
  have ht := fun d a b => f_is_tuple_of (k := k + 1) (st := st) d a b
  have hw := fun d a b => f_is_whole_within (k := k) (st := st) d a b
  have hy := fun d h => f_is_way (k := k) (st := st) d h
  unfold FF at ht hw hy
  cases d with
  | tuple ds =>
    match ds with
    | [a, b, c] =>
      have hc := (gd_tup h).2 c (by simp)
      cases h1 : within a 0 1000 with
      | false => simp [m_is_hole, runM, seqS, frzS, frzs, frz1, retF, retS, ifS, skipS, andE, orE, notE, ifE, valF, vE, vV, kE, kV', callF, ar_nil, ar_cons, dn_fz, dn_ow, dn_bag, dn_scr, d_fz, d_ow, b_of, isiF, isD, blF, cmpF, chainF, orElse, lenS, bltF1, notT, andT, orT, tstF, l_list, l_tuple, l_all, l_listL, l_listT, l_tupL, l_tupT, l_abs, c_lt, c_le, c_gt, c_ge, c_eqI, c_neI, c_inS, c_niS, i_list, i_tuple, i_str, x_list, x_tuple, plainF, ixF, ixS, asgF, unpF, unF, setAll, List.length_cons, List.length_nil, List.map_cons, List.map_nil, if_true, if_false, List.cons_append, List.nil_append, List.append_nil, List.getElem?_cons_zero, List.getElem?_cons_succ, List.replicate, List.set_cons_zero, List.set_cons_succ, Option.bind_some, Option.map_some, Option.bind_none, Option.map_none, Bool.not_true, Bool.not_false, Bool.false_eq_true, Bool.or_false, Bool.or_true, Nat.reduceAdd, Nat.reduceSub, Nat.zero_add, decide_true, decide_false, Bool.true_and, Bool.false_and, Bool.and_true, Bool.and_false, ht, hw, tup3, isHl, h1]
      | true =>
        cases h2 : within b 1 100 with
        | false => simp [m_is_hole, runM, seqS, frzS, frzs, frz1, retF, retS, ifS, skipS, andE, orE, notE, ifE, valF, vE, vV, kE, kV', callF, ar_nil, ar_cons, dn_fz, dn_ow, dn_bag, dn_scr, d_fz, d_ow, b_of, isiF, isD, blF, cmpF, chainF, orElse, lenS, bltF1, notT, andT, orT, tstF, l_list, l_tuple, l_all, l_listL, l_listT, l_tupL, l_tupT, l_abs, c_lt, c_le, c_gt, c_ge, c_eqI, c_neI, c_inS, c_niS, i_list, i_tuple, i_str, x_list, x_tuple, plainF, ixF, ixS, asgF, unpF, unF, setAll, List.length_cons, List.length_nil, List.map_cons, List.map_nil, if_true, if_false, List.cons_append, List.nil_append, List.append_nil, List.getElem?_cons_zero, List.getElem?_cons_succ, List.replicate, List.set_cons_zero, List.set_cons_succ, Option.bind_some, Option.map_some, Option.bind_none, Option.map_none, Bool.not_true, Bool.not_false, Bool.false_eq_true, Bool.or_false, Bool.or_true, Nat.reduceAdd, Nat.reduceSub, Nat.zero_add, decide_true, decide_false, Bool.true_and, Bool.false_and, Bool.and_true, Bool.and_false, ht, hw, tup3, isHl, h1, h2]
        | true => simp [m_is_hole, runM, seqS, frzS, frzs, frz1, retF, retS, ifS, skipS, andE, orE, notE, ifE, valF, vE, vV, kE, kV', callF, ar_nil, ar_cons, dn_fz, dn_ow, dn_bag, dn_scr, d_fz, d_ow, b_of, isiF, isD, blF, cmpF, chainF, orElse, lenS, bltF1, notT, andT, orT, tstF, l_list, l_tuple, l_all, l_listL, l_listT, l_tupL, l_tupT, l_abs, c_lt, c_le, c_gt, c_ge, c_eqI, c_neI, c_inS, c_niS, i_list, i_tuple, i_str, x_list, x_tuple, plainF, ixF, ixS, asgF, unpF, unF, setAll, List.length_cons, List.length_nil, List.map_cons, List.map_nil, if_true, if_false, List.cons_append, List.nil_append, List.append_nil, List.getElem?_cons_zero, List.getElem?_cons_succ, List.replicate, List.set_cons_zero, List.set_cons_succ, Option.bind_some, Option.map_some, Option.bind_none, Option.map_none, Bool.not_true, Bool.not_false, Bool.false_eq_true, Bool.or_false, Bool.or_true, Nat.reduceAdd, Nat.reduceSub, Nat.zero_add, decide_true, decide_false, Bool.true_and, Bool.false_and, Bool.and_true, Bool.and_false, ht, hw, hy c hc, tup3, isHl, h1, h2]
    | [] => simp [m_is_hole, runM, seqS, frzS, frzs, frz1, retF, retS, ifS, skipS, andE, orE, notE, ifE, valF, vE, vV, kE, kV', callF, ar_nil, ar_cons, dn_fz, dn_ow, dn_bag, dn_scr, d_fz, d_ow, b_of, isiF, isD, blF, cmpF, chainF, orElse, lenS, bltF1, notT, andT, orT, tstF, l_list, l_tuple, l_all, l_listL, l_listT, l_tupL, l_tupT, l_abs, c_lt, c_le, c_gt, c_ge, c_eqI, c_neI, c_inS, c_niS, i_list, i_tuple, i_str, x_list, x_tuple, plainF, ixF, ixS, asgF, unpF, unF, setAll, List.length_cons, List.length_nil, List.map_cons, List.map_nil, if_true, if_false, List.cons_append, List.nil_append, List.append_nil, List.getElem?_cons_zero, List.getElem?_cons_succ, List.replicate, List.set_cons_zero, List.set_cons_succ, Option.bind_some, Option.map_some, Option.bind_none, Option.map_none, Bool.not_true, Bool.not_false, Bool.false_eq_true, Bool.or_false, Bool.or_true, Nat.reduceAdd, Nat.reduceSub, Nat.zero_add, decide_true, decide_false, Bool.true_and, Bool.false_and, Bool.and_true, Bool.and_false, ht, tup3, isHl]
    | [_] => simp [m_is_hole, runM, seqS, frzS, frzs, frz1, retF, retS, ifS, skipS, andE, orE, notE, ifE, valF, vE, vV, kE, kV', callF, ar_nil, ar_cons, dn_fz, dn_ow, dn_bag, dn_scr, d_fz, d_ow, b_of, isiF, isD, blF, cmpF, chainF, orElse, lenS, bltF1, notT, andT, orT, tstF, l_list, l_tuple, l_all, l_listL, l_listT, l_tupL, l_tupT, l_abs, c_lt, c_le, c_gt, c_ge, c_eqI, c_neI, c_inS, c_niS, i_list, i_tuple, i_str, x_list, x_tuple, plainF, ixF, ixS, asgF, unpF, unF, setAll, List.length_cons, List.length_nil, List.map_cons, List.map_nil, if_true, if_false, List.cons_append, List.nil_append, List.append_nil, List.getElem?_cons_zero, List.getElem?_cons_succ, List.replicate, List.set_cons_zero, List.set_cons_succ, Option.bind_some, Option.map_some, Option.bind_none, Option.map_none, Bool.not_true, Bool.not_false, Bool.false_eq_true, Bool.or_false, Bool.or_true, Nat.reduceAdd, Nat.reduceSub, Nat.zero_add, decide_true, decide_false, Bool.true_and, Bool.false_and, Bool.and_true, Bool.and_false, ht, tup3, isHl]
    | [_, _] => simp [m_is_hole, runM, seqS, frzS, frzs, frz1, retF, retS, ifS, skipS, andE, orE, notE, ifE, valF, vE, vV, kE, kV', callF, ar_nil, ar_cons, dn_fz, dn_ow, dn_bag, dn_scr, d_fz, d_ow, b_of, isiF, isD, blF, cmpF, chainF, orElse, lenS, bltF1, notT, andT, orT, tstF, l_list, l_tuple, l_all, l_listL, l_listT, l_tupL, l_tupT, l_abs, c_lt, c_le, c_gt, c_ge, c_eqI, c_neI, c_inS, c_niS, i_list, i_tuple, i_str, x_list, x_tuple, plainF, ixF, ixS, asgF, unpF, unF, setAll, List.length_cons, List.length_nil, List.map_cons, List.map_nil, if_true, if_false, List.cons_append, List.nil_append, List.append_nil, List.getElem?_cons_zero, List.getElem?_cons_succ, List.replicate, List.set_cons_zero, List.set_cons_succ, Option.bind_some, Option.map_some, Option.bind_none, Option.map_none, Bool.not_true, Bool.not_false, Bool.false_eq_true, Bool.or_false, Bool.or_true, Nat.reduceAdd, Nat.reduceSub, Nat.zero_add, decide_true, decide_false, Bool.true_and, Bool.false_and, Bool.and_true, Bool.and_false, ht, tup3, isHl]
    | _ :: _ :: _ :: _ :: r => simp [m_is_hole, runM, seqS, frzS, frzs, frz1, retF, retS, ifS, skipS, andE, orE, notE, ifE, valF, vE, vV, kE, kV', callF, ar_nil, ar_cons, dn_fz, dn_ow, dn_bag, dn_scr, d_fz, d_ow, b_of, isiF, isD, blF, cmpF, chainF, orElse, lenS, bltF1, notT, andT, orT, tstF, l_list, l_tuple, l_all, l_listL, l_listT, l_tupL, l_tupT, l_abs, c_lt, c_le, c_gt, c_ge, c_eqI, c_neI, c_inS, c_niS, i_list, i_tuple, i_str, x_list, x_tuple, plainF, ixF, ixS, asgF, unpF, unF, setAll, List.length_cons, List.length_nil, List.map_cons, List.map_nil, if_true, if_false, List.cons_append, List.nil_append, List.append_nil, List.getElem?_cons_zero, List.getElem?_cons_succ, List.replicate, List.set_cons_zero, List.set_cons_succ, Option.bind_some, Option.map_some, Option.bind_none, Option.map_none, Bool.not_true, Bool.not_false, Bool.false_eq_true, Bool.or_false, Bool.or_true, Nat.reduceAdd, Nat.reduceSub, Nat.zero_add, decide_true, decide_false, Bool.true_and, Bool.false_and, Bool.and_true, Bool.and_false, ht, tup3, isHl]
  | _ => simp [m_is_hole, runM, seqS, frzS, frzs, frz1, retF, retS, ifS, skipS, andE, orE, notE, ifE, valF, vE, vV, kE, kV', callF, ar_nil, ar_cons, dn_fz, dn_ow, dn_bag, dn_scr, d_fz, d_ow, b_of, isiF, isD, blF, cmpF, chainF, orElse, lenS, bltF1, notT, andT, orT, tstF, l_list, l_tuple, l_all, l_listL, l_listT, l_tupL, l_tupT, l_abs, c_lt, c_le, c_gt, c_ge, c_eqI, c_neI, c_inS, c_niS, i_list, i_tuple, i_str, x_list, x_tuple, plainF, ixF, ixS, asgF, unpF, unF, setAll, List.length_cons, List.length_nil, List.map_cons, List.map_nil, if_true, if_false, List.cons_append, List.nil_append, List.append_nil, List.getElem?_cons_zero, List.getElem?_cons_succ, List.replicate, List.set_cons_zero, List.set_cons_succ, Option.bind_some, Option.map_some, Option.bind_none, Option.map_none, Bool.not_true, Bool.not_false, Bool.false_eq_true, Bool.or_false, Bool.or_true, Nat.reduceAdd, Nat.reduceSub, Nat.zero_add, decide_true, decide_false, Bool.true_and, Bool.false_and, Bool.and_true, Bool.and_false, ht, tupLen, isHl]
theorem all_map (l : List D) (p : D → Bool) : blD1 .all (.list (l.map fun d => PyData.bool (p d))) = some (.fz (.bool (l.all p))) := by
  have e : (l.map fun d => PyData.bool (p d)) = (l.map p).map PyData.bool := by rw [List.map_map]; rfl
  rw [e, l_all, List.all_map]
  rfl
def hgt : D → Int
  | .tuple (.int h :: _) => h
  | _ => 0
theorem isHl_shape {d : D} (h : isHl d = true) : ∃ (a : Int) (b c : D), d = .tuple [.int a, b, c] := by
  unfold isHl at h
  split at h
  · rename_i x r i
    cases x <;> simp [within] at h
    exact ⟨_, _, _, rfl⟩
  · cases h
def arHl : D → Bool
  | .tuple ds => decide (ds.length ≤ 3) && (ds.all isHl && risingI (ds.map hgt))
  | _ => false
theorem tup03 (ds : List D) : tupLen (.tuple ds) 0 3 = decide (ds.length ≤ 3) := by
  unfold tupLen
  rw [Bool.eq_iff_iff]
  simp
  omega
theorem f_are_holes (d : D) (h : gd d = true) : FF (k + 4) "are_holes" [.fz d] st = some (.fz (.bool (arHl d)), st) := by
  unfold FF
  rw [e_are_holes]
  have ht := fun d a b => f_is_tuple_of (k := k + 2) (st := st) d a b
  have hh := fun d h => f_is_hole (k := k) (st := st) d h
  have hr := fun ns h => f_is_rising (k := k + 2) (st := st) ns h
  unfold FF at ht hh hr
  cases d with
  | tuple ds =>
    obtain ⟨hl, hg⟩ := gd_tup h
    have l1 : lcF (plainF (vE 0)) [1] (setF 1) yesT (callF (tbl.F whR 60 (k + 3)) "is_hole" (argsF [(vE 1)])) [some (.fz (.tuple ds)), none, none, none, none] st = some (.ow (.list (ds.map fun d => .bool (isHl d))), st) :=
      lcF_map _ rfl (fun d hd => ⟨_, .fz (.bool (isHl d)), rfl, by simp [wipeE, runM, seqS, frzS, frzs, frz1, retF, retS, ifS, skipS, andE, orE, notE, ifE, valF, vE, vV, kE, kV', callF, ar_nil, ar_cons, dn_fz, dn_ow, dn_bag, dn_scr, d_fz, d_ow, b_of, isiF, isD, blF, cmpF, chainF, orElse, lenS, bltF1, notT, andT, orT, tstF, l_list, l_tuple, l_all, l_listL, l_listT, l_tupL, l_tupT, l_abs, c_lt, c_le, c_gt, c_ge, c_eqI, c_neI, c_inS, c_niS, i_list, i_tuple, i_str, x_list, x_tuple, plainF, ixF, ixS, asgF, unpF, unF, setAll, List.length_cons, List.length_nil, List.map_cons, List.map_nil, if_true, if_false, List.cons_append, List.nil_append, List.append_nil, List.getElem?_cons_zero, List.getElem?_cons_succ, List.replicate, List.set_cons_zero, List.set_cons_succ, Option.bind_some, Option.map_some, Option.bind_none, Option.map_none, Bool.not_true, Bool.not_false, Bool.false_eq_true, Bool.or_false, Bool.or_true, Nat.reduceAdd, Nat.reduceSub, Nat.zero_add, decide_true, decide_false, Bool.true_and, Bool.false_and, Bool.and_true, Bool.and_false, hh d (hg d hd)], rfl⟩) hl
    by_cases h3 : ds.length ≤ 3
    · cases ha : ds.all isHl with
      | false => simp [m_are_holes, runM, seqS, frzS, frzs, frz1, retF, retS, ifS, skipS, andE, orE, notE, ifE, valF, vE, vV, kE, kV', callF, ar_nil, ar_cons, dn_fz, dn_ow, dn_bag, dn_scr, d_fz, d_ow, b_of, isiF, isD, blF, cmpF, chainF, orElse, lenS, bltF1, notT, andT, orT, tstF, l_list, l_tuple, l_all, l_listL, l_listT, l_tupL, l_tupT, l_abs, c_lt, c_le, c_gt, c_ge, c_eqI, c_neI, c_inS, c_niS, i_list, i_tuple, i_str, x_list, x_tuple, plainF, ixF, ixS, asgF, unpF, unF, setAll, List.length_cons, List.length_nil, List.map_cons, List.map_nil, if_true, if_false, List.cons_append, List.nil_append, List.append_nil, List.getElem?_cons_zero, List.getElem?_cons_succ, List.replicate, List.set_cons_zero, List.set_cons_succ, Option.bind_some, Option.map_some, Option.bind_none, Option.map_none, Bool.not_true, Bool.not_false, Bool.false_eq_true, Bool.or_false, Bool.or_true, Nat.reduceAdd, Nat.reduceSub, Nat.zero_add, decide_true, decide_false, Bool.true_and, Bool.false_and, Bool.and_true, Bool.and_false, ht, tup03, h3, l1, all_map, ha, arHl]
      | true =>
        have hm := List.all_eq_true.mp ha
        have l2 : lcF (plainF (vE 0)) [2, 3, 4] (unF [2, 3, 4]) yesT (vE 2) [some (.fz (.tuple ds)), none, none, none, none] st = some (.ow (.list (ds.map fun d => .int (hgt d))), st) :=
          lcF_map _ rfl (fun d hd => by
            obtain ⟨x, y, z, rfl⟩ := isHl_shape (hm d hd)
            exact ⟨_, _, rfl, rfl, rfl⟩) hl
        have e : (ds.map fun d => PyData.int (hgt d)) = (ds.map hgt).map PyData.int := by rw [List.map_map]; rfl
        have hr' := hr (ds.map hgt) (by rw [List.length_map]; omega)
        simp [m_are_holes, runM, seqS, frzS, frzs, frz1, retF, retS, ifS, skipS, andE, orE, notE, ifE, valF, vE, vV, kE, kV', callF, ar_nil, ar_cons, dn_fz, dn_ow, dn_bag, dn_scr, d_fz, d_ow, b_of, isiF, isD, blF, cmpF, chainF, orElse, lenS, bltF1, notT, andT, orT, tstF, l_list, l_tuple, l_all, l_listL, l_listT, l_tupL, l_tupT, l_abs, c_lt, c_le, c_gt, c_ge, c_eqI, c_neI, c_inS, c_niS, i_list, i_tuple, i_str, x_list, x_tuple, plainF, ixF, ixS, asgF, unpF, unF, setAll, List.length_cons, List.length_nil, List.map_cons, List.map_nil, if_true, if_false, List.cons_append, List.nil_append, List.append_nil, List.getElem?_cons_zero, List.getElem?_cons_succ, List.replicate, List.set_cons_zero, List.set_cons_succ, Option.bind_some, Option.map_some, Option.bind_none, Option.map_none, Bool.not_true, Bool.not_false, Bool.false_eq_true, Bool.or_false, Bool.or_true, Nat.reduceAdd, Nat.reduceSub, Nat.zero_add, decide_true, decide_false, Bool.true_and, Bool.false_and, Bool.and_true, Bool.and_false, ht, tup03, h3, l1, all_map, ha, arHl, l2]
        rw [e, hr']
        rfl
    · simp [m_are_holes, runM, seqS, frzS, frzs, frz1, retF, retS, ifS, skipS, andE, orE, notE, ifE, valF, vE, vV, kE, kV', callF, ar_nil, ar_cons, dn_fz, dn_ow, dn_bag, dn_scr, d_fz, d_ow, b_of, isiF, isD, blF, cmpF, chainF, orElse, lenS, bltF1, notT, andT, orT, tstF, l_list, l_tuple, l_all, l_listL, l_listT, l_tupL, l_tupT, l_abs, c_lt, c_le, c_gt, c_ge, c_eqI, c_neI, c_inS, c_niS, i_list, i_tuple, i_str, x_list, x_tuple, plainF, ixF, ixS, asgF, unpF, unF, setAll, List.length_cons, List.length_nil, List.map_cons, List.map_nil, if_true, if_false, List.cons_append, List.nil_append, List.append_nil, List.getElem?_cons_zero, List.getElem?_cons_succ, List.replicate, List.set_cons_zero, List.set_cons_succ, Option.bind_some, Option.map_some, Option.bind_none, Option.map_none, Bool.not_true, Bool.not_false, Bool.false_eq_true, Bool.or_false, Bool.or_true, Nat.reduceAdd, Nat.reduceSub, Nat.zero_add, decide_true, decide_false, Bool.true_and, Bool.false_and, Bool.and_true, Bool.and_false, ht, tup03, h3, arHl]
  | _ => simp [m_are_holes, runM, seqS, frzS, frzs, frz1, retF, retS, ifS, skipS, andE, orE, notE, ifE, valF, vE, vV, kE, kV', callF, ar_nil, ar_cons, dn_fz, dn_ow, dn_bag, dn_scr, d_fz, d_ow, b_of, isiF, isD, blF, cmpF, chainF, orElse, lenS, bltF1, notT, andT, orT, tstF, l_list, l_tuple, l_all, l_listL, l_listT, l_tupL, l_tupT, l_abs, c_lt, c_le, c_gt, c_ge, c_eqI, c_neI, c_inS, c_niS, i_list, i_tuple, i_str, x_list, x_tuple, plainF, ixF, ixS, asgF, unpF, unF, setAll, List.length_cons, List.length_nil, List.map_cons, List.map_nil, if_true, if_false, List.cons_append, List.nil_append, List.append_nil, List.getElem?_cons_zero, List.getElem?_cons_succ, List.replicate, List.set_cons_zero, List.set_cons_succ, Option.bind_some, Option.map_some, Option.bind_none, Option.map_none, Bool.not_true, Bool.not_false, Bool.false_eq_true, Bool.or_false, Bool.or_true, Nat.reduceAdd, Nat.reduceSub, Nat.zero_add, decide_true, decide_false, Bool.true_and, Bool.false_and, Bool.and_true, Bool.and_false, ht, tupLen, arHl]
def isTb : D → Bool
  | .tuple [n, g, h] => isNm n && (within g 1 1000 && arHl h)
  | _ => false
theorem f_is_tub (d : D) (h : gd d = true) : FF (k + 5) "is_tub" [.fz d] st = some (.fz (.bool (isTb d)), st) := by
  unfold FF
  rw [e_is_tub]
  have ht := fun d a b => f_is_tuple_of (k := k + 3) (st := st) d a b
  have hw := fun d a b => f_is_whole_within (k := k + 2) (st := st) d a b
  have hn := fun d h => f_is_name (k := k + 3) (st := st) d h
  have hh := fun d h => f_are_holes (k := k) (st := st) d h
  unfold FF at ht hw hn hh
  cases d with
  | tuple ds =>
    match ds with
    | [a, b, c] =>
      have ga := (gd_tup h).2 a (by simp)
      have hc := (gd_tup h).2 c (by simp)
      have hn := hn a (fun z e => by subst e; exact (gd_str ga).1)
      cases h1 : isNm a with
      | false => simp [m_is_tub, runM, seqS, frzS, frzs, frz1, retF, retS, ifS, skipS, andE, orE, notE, ifE, valF, vE, vV, kE, kV', callF, ar_nil, ar_cons, dn_fz, dn_ow, dn_bag, dn_scr, d_fz, d_ow, b_of, isiF, isD, blF, cmpF, chainF, orElse, lenS, bltF1, notT, andT, orT, tstF, l_list, l_tuple, l_all, l_listL, l_listT, l_tupL, l_tupT, l_abs, c_lt, c_le, c_gt, c_ge, c_eqI, c_neI, c_inS, c_niS, i_list, i_tuple, i_str, x_list, x_tuple, plainF, ixF, ixS, asgF, unpF, unF, setAll, List.length_cons, List.length_nil, List.map_cons, List.map_nil, if_true, if_false, List.cons_append, List.nil_append, List.append_nil, List.getElem?_cons_zero, List.getElem?_cons_succ, List.replicate, List.set_cons_zero, List.set_cons_succ, Option.bind_some, Option.map_some, Option.bind_none, Option.map_none, Bool.not_true, Bool.not_false, Bool.false_eq_true, Bool.or_false, Bool.or_true, Nat.reduceAdd, Nat.reduceSub, Nat.zero_add, decide_true, decide_false, Bool.true_and, Bool.false_and, Bool.and_true, Bool.and_false, ht, hn, tup3, isTb, h1]
      | true =>
        cases h2 : within b 1 1000 with
        | false => simp [m_is_tub, runM, seqS, frzS, frzs, frz1, retF, retS, ifS, skipS, andE, orE, notE, ifE, valF, vE, vV, kE, kV', callF, ar_nil, ar_cons, dn_fz, dn_ow, dn_bag, dn_scr, d_fz, d_ow, b_of, isiF, isD, blF, cmpF, chainF, orElse, lenS, bltF1, notT, andT, orT, tstF, l_list, l_tuple, l_all, l_listL, l_listT, l_tupL, l_tupT, l_abs, c_lt, c_le, c_gt, c_ge, c_eqI, c_neI, c_inS, c_niS, i_list, i_tuple, i_str, x_list, x_tuple, plainF, ixF, ixS, asgF, unpF, unF, setAll, List.length_cons, List.length_nil, List.map_cons, List.map_nil, if_true, if_false, List.cons_append, List.nil_append, List.append_nil, List.getElem?_cons_zero, List.getElem?_cons_succ, List.replicate, List.set_cons_zero, List.set_cons_succ, Option.bind_some, Option.map_some, Option.bind_none, Option.map_none, Bool.not_true, Bool.not_false, Bool.false_eq_true, Bool.or_false, Bool.or_true, Nat.reduceAdd, Nat.reduceSub, Nat.zero_add, decide_true, decide_false, Bool.true_and, Bool.false_and, Bool.and_true, Bool.and_false, ht, hn, hw, tup3, isTb, h1, h2]
        | true => simp [m_is_tub, runM, seqS, frzS, frzs, frz1, retF, retS, ifS, skipS, andE, orE, notE, ifE, valF, vE, vV, kE, kV', callF, ar_nil, ar_cons, dn_fz, dn_ow, dn_bag, dn_scr, d_fz, d_ow, b_of, isiF, isD, blF, cmpF, chainF, orElse, lenS, bltF1, notT, andT, orT, tstF, l_list, l_tuple, l_all, l_listL, l_listT, l_tupL, l_tupT, l_abs, c_lt, c_le, c_gt, c_ge, c_eqI, c_neI, c_inS, c_niS, i_list, i_tuple, i_str, x_list, x_tuple, plainF, ixF, ixS, asgF, unpF, unF, setAll, List.length_cons, List.length_nil, List.map_cons, List.map_nil, if_true, if_false, List.cons_append, List.nil_append, List.append_nil, List.getElem?_cons_zero, List.getElem?_cons_succ, List.replicate, List.set_cons_zero, List.set_cons_succ, Option.bind_some, Option.map_some, Option.bind_none, Option.map_none, Bool.not_true, Bool.not_false, Bool.false_eq_true, Bool.or_false, Bool.or_true, Nat.reduceAdd, Nat.reduceSub, Nat.zero_add, decide_true, decide_false, Bool.true_and, Bool.false_and, Bool.and_true, Bool.and_false, ht, hn, hw, hh c hc, tup3, isTb, h1, h2]
    | [] => simp [m_is_tub, runM, seqS, frzS, frzs, frz1, retF, retS, ifS, skipS, andE, orE, notE, ifE, valF, vE, vV, kE, kV', callF, ar_nil, ar_cons, dn_fz, dn_ow, dn_bag, dn_scr, d_fz, d_ow, b_of, isiF, isD, blF, cmpF, chainF, orElse, lenS, bltF1, notT, andT, orT, tstF, l_list, l_tuple, l_all, l_listL, l_listT, l_tupL, l_tupT, l_abs, c_lt, c_le, c_gt, c_ge, c_eqI, c_neI, c_inS, c_niS, i_list, i_tuple, i_str, x_list, x_tuple, plainF, ixF, ixS, asgF, unpF, unF, setAll, List.length_cons, List.length_nil, List.map_cons, List.map_nil, if_true, if_false, List.cons_append, List.nil_append, List.append_nil, List.getElem?_cons_zero, List.getElem?_cons_succ, List.replicate, List.set_cons_zero, List.set_cons_succ, Option.bind_some, Option.map_some, Option.bind_none, Option.map_none, Bool.not_true, Bool.not_false, Bool.false_eq_true, Bool.or_false, Bool.or_true, Nat.reduceAdd, Nat.reduceSub, Nat.zero_add, decide_true, decide_false, Bool.true_and, Bool.false_and, Bool.and_true, Bool.and_false, ht, tup3, isTb]
    | [_] => simp [m_is_tub, runM, seqS, frzS, frzs, frz1, retF, retS, ifS, skipS, andE, orE, notE, ifE, valF, vE, vV, kE, kV', callF, ar_nil, ar_cons, dn_fz, dn_ow, dn_bag, dn_scr, d_fz, d_ow, b_of, isiF, isD, blF, cmpF, chainF, orElse, lenS, bltF1, notT, andT, orT, tstF, l_list, l_tuple, l_all, l_listL, l_listT, l_tupL, l_tupT, l_abs, c_lt, c_le, c_gt, c_ge, c_eqI, c_neI, c_inS, c_niS, i_list, i_tuple, i_str, x_list, x_tuple, plainF, ixF, ixS, asgF, unpF, unF, setAll, List.length_cons, List.length_nil, List.map_cons, List.map_nil, if_true, if_false, List.cons_append, List.nil_append, List.append_nil, List.getElem?_cons_zero, List.getElem?_cons_succ, List.replicate, List.set_cons_zero, List.set_cons_succ, Option.bind_some, Option.map_some, Option.bind_none, Option.map_none, Bool.not_true, Bool.not_false, Bool.false_eq_true, Bool.or_false, Bool.or_true, Nat.reduceAdd, Nat.reduceSub, Nat.zero_add, decide_true, decide_false, Bool.true_and, Bool.false_and, Bool.and_true, Bool.and_false, ht, tup3, isTb]
    | [_, _] => simp [m_is_tub, runM, seqS, frzS, frzs, frz1, retF, retS, ifS, skipS, andE, orE, notE, ifE, valF, vE, vV, kE, kV', callF, ar_nil, ar_cons, dn_fz, dn_ow, dn_bag, dn_scr, d_fz, d_ow, b_of, isiF, isD, blF, cmpF, chainF, orElse, lenS, bltF1, notT, andT, orT, tstF, l_list, l_tuple, l_all, l_listL, l_listT, l_tupL, l_tupT, l_abs, c_lt, c_le, c_gt, c_ge, c_eqI, c_neI, c_inS, c_niS, i_list, i_tuple, i_str, x_list, x_tuple, plainF, ixF, ixS, asgF, unpF, unF, setAll, List.length_cons, List.length_nil, List.map_cons, List.map_nil, if_true, if_false, List.cons_append, List.nil_append, List.append_nil, List.getElem?_cons_zero, List.getElem?_cons_succ, List.replicate, List.set_cons_zero, List.set_cons_succ, Option.bind_some, Option.map_some, Option.bind_none, Option.map_none, Bool.not_true, Bool.not_false, Bool.false_eq_true, Bool.or_false, Bool.or_true, Nat.reduceAdd, Nat.reduceSub, Nat.zero_add, decide_true, decide_false, Bool.true_and, Bool.false_and, Bool.and_true, Bool.and_false, ht, tup3, isTb]
    | _ :: _ :: _ :: _ :: r => simp [m_is_tub, runM, seqS, frzS, frzs, frz1, retF, retS, ifS, skipS, andE, orE, notE, ifE, valF, vE, vV, kE, kV', callF, ar_nil, ar_cons, dn_fz, dn_ow, dn_bag, dn_scr, d_fz, d_ow, b_of, isiF, isD, blF, cmpF, chainF, orElse, lenS, bltF1, notT, andT, orT, tstF, l_list, l_tuple, l_all, l_listL, l_listT, l_tupL, l_tupT, l_abs, c_lt, c_le, c_gt, c_ge, c_eqI, c_neI, c_inS, c_niS, i_list, i_tuple, i_str, x_list, x_tuple, plainF, ixF, ixS, asgF, unpF, unF, setAll, List.length_cons, List.length_nil, List.map_cons, List.map_nil, if_true, if_false, List.cons_append, List.nil_append, List.append_nil, List.getElem?_cons_zero, List.getElem?_cons_succ, List.replicate, List.set_cons_zero, List.set_cons_succ, Option.bind_some, Option.map_some, Option.bind_none, Option.map_none, Bool.not_true, Bool.not_false, Bool.false_eq_true, Bool.or_false, Bool.or_true, Nat.reduceAdd, Nat.reduceSub, Nat.zero_add, decide_true, decide_false, Bool.true_and, Bool.false_and, Bool.and_true, Bool.and_false, ht, tup3, isTb]
  | _ => simp [m_is_tub, runM, seqS, frzS, frzs, frz1, retF, retS, ifS, skipS, andE, orE, notE, ifE, valF, vE, vV, kE, kV', callF, ar_nil, ar_cons, dn_fz, dn_ow, dn_bag, dn_scr, d_fz, d_ow, b_of, isiF, isD, blF, cmpF, chainF, orElse, lenS, bltF1, notT, andT, orT, tstF, l_list, l_tuple, l_all, l_listL, l_listT, l_tupL, l_tupT, l_abs, c_lt, c_le, c_gt, c_ge, c_eqI, c_neI, c_inS, c_niS, i_list, i_tuple, i_str, x_list, x_tuple, plainF, ixF, ixS, asgF, unpF, unF, setAll, List.length_cons, List.length_nil, List.map_cons, List.map_nil, if_true, if_false, List.cons_append, List.nil_append, List.append_nil, List.getElem?_cons_zero, List.getElem?_cons_succ, List.replicate, List.set_cons_zero, List.set_cons_succ, Option.bind_some, Option.map_some, Option.bind_none, Option.map_none, Bool.not_true, Bool.not_false, Bool.false_eq_true, Bool.or_false, Bool.or_true, Nat.reduceAdd, Nat.reduceSub, Nat.zero_add, decide_true, decide_false, Bool.true_and, Bool.false_and, Bool.and_true, Bool.and_false, ht, tupLen, isTb]
/-! ### rain, weather, beginnings -/
def lenD : D → Nat
  | .tuple ds => ds.length
  | _ => 0
theorem tupN (ds : List D) (n : Nat) : tupLen (.tuple ds) n n = decide (ds.length = n) := by
  unfold tupLen
  rw [Bool.eq_iff_iff]
  simp
  omega
def isRn (n : Nat) : D → Bool
  | .tuple ds => decide (ds.length = n) && ds.all fun d => within d 0 1000
  | _ => false
theorem f_is_rain (ts : List D) (d : D) (h : gd d = true) : FF (k + 3) "is_rain" [.fz (.tuple ts), .fz d] st = some (.fz (.bool (isRn ts.length d)), st) := by
  unfold FF
  rw [e_is_rain]
  have ht := fun d a b => f_is_tuple_of (k := k + 1) (st := st) d a b
  have hw := fun d a b => f_is_whole_within (k := k) (st := st) d a b
  unfold FF at ht hw
  cases d with
  | tuple ds =>
    obtain ⟨hl, hg⟩ := gd_tup h
    have l1 : lcF (plainF (vE 1)) [2] (setF 2) yesT (callF (tbl.F whR 60 (k + 2)) "is_whole_within" (argsF [(vE 2), (kE (.int 0)), (kE (.int 1000))])) [some (.fz (.tuple ts)), some (.fz (.tuple ds)), none] st = some (.ow (.list (ds.map fun d => .bool (within d 0 1000))), st) :=
      lcF_map _ rfl (fun d hd => ⟨_, .fz (.bool (within d 0 1000)), rfl, by simp [wipeE, runM, seqS, frzS, frzs, frz1, retF, retS, ifS, skipS, andE, orE, notE, ifE, valF, vE, vV, kE, kV', callF, ar_nil, ar_cons, dn_fz, dn_ow, dn_bag, dn_scr, d_fz, d_ow, b_of, isiF, isD, blF, cmpF, chainF, orElse, lenS, bltF1, notT, andT, orT, tstF, l_list, l_tuple, l_all, l_listL, l_listT, l_tupL, l_tupT, l_abs, c_lt, c_le, c_gt, c_ge, c_eqI, c_neI, c_inS, c_niS, i_list, i_tuple, i_str, x_list, x_tuple, plainF, ixF, ixS, asgF, unpF, unF, setAll, List.length_cons, List.length_nil, List.map_cons, List.map_nil, if_true, if_false, List.cons_append, List.nil_append, List.append_nil, List.getElem?_cons_zero, List.getElem?_cons_succ, List.replicate, List.set_cons_zero, List.set_cons_succ, Option.bind_some, Option.map_some, Option.bind_none, Option.map_none, Bool.not_true, Bool.not_false, Bool.false_eq_true, Bool.or_false, Bool.or_true, Nat.reduceAdd, Nat.reduceSub, Nat.zero_add, decide_true, decide_false, Bool.true_and, Bool.false_and, Bool.and_true, Bool.and_false, hw], rfl⟩) hl
    by_cases h3 : ds.length = ts.length
    · simp [m_is_rain, runM, seqS, frzS, frzs, frz1, retF, retS, ifS, skipS, andE, orE, notE, ifE, valF, vE, vV, kE, kV', callF, ar_nil, ar_cons, dn_fz, dn_ow, dn_bag, dn_scr, d_fz, d_ow, b_of, isiF, isD, blF, cmpF, chainF, orElse, lenS, bltF1, notT, andT, orT, tstF, l_list, l_tuple, l_all, l_listL, l_listT, l_tupL, l_tupT, l_abs, c_lt, c_le, c_gt, c_ge, c_eqI, c_neI, c_inS, c_niS, i_list, i_tuple, i_str, x_list, x_tuple, plainF, ixF, ixS, asgF, unpF, unF, setAll, List.length_cons, List.length_nil, List.map_cons, List.map_nil, if_true, if_false, List.cons_append, List.nil_append, List.append_nil, List.getElem?_cons_zero, List.getElem?_cons_succ, List.replicate, List.set_cons_zero, List.set_cons_succ, Option.bind_some, Option.map_some, Option.bind_none, Option.map_none, Bool.not_true, Bool.not_false, Bool.false_eq_true, Bool.or_false, Bool.or_true, Nat.reduceAdd, Nat.reduceSub, Nat.zero_add, decide_true, decide_false, Bool.true_and, Bool.false_and, Bool.and_true, Bool.and_false, ht, tupN, h3, l1, all_map, isRn]
    · simp [m_is_rain, runM, seqS, frzS, frzs, frz1, retF, retS, ifS, skipS, andE, orE, notE, ifE, valF, vE, vV, kE, kV', callF, ar_nil, ar_cons, dn_fz, dn_ow, dn_bag, dn_scr, d_fz, d_ow, b_of, isiF, isD, blF, cmpF, chainF, orElse, lenS, bltF1, notT, andT, orT, tstF, l_list, l_tuple, l_all, l_listL, l_listT, l_tupL, l_tupT, l_abs, c_lt, c_le, c_gt, c_ge, c_eqI, c_neI, c_inS, c_niS, i_list, i_tuple, i_str, x_list, x_tuple, plainF, ixF, ixS, asgF, unpF, unF, setAll, List.length_cons, List.length_nil, List.map_cons, List.map_nil, if_true, if_false, List.cons_append, List.nil_append, List.append_nil, List.getElem?_cons_zero, List.getElem?_cons_succ, List.replicate, List.set_cons_zero, List.set_cons_succ, Option.bind_some, Option.map_some, Option.bind_none, Option.map_none, Bool.not_true, Bool.not_false, Bool.false_eq_true, Bool.or_false, Bool.or_true, Nat.reduceAdd, Nat.reduceSub, Nat.zero_add, decide_true, decide_false, Bool.true_and, Bool.false_and, Bool.and_true, Bool.and_false, ht, tupN, h3, isRn]
  | _ => simp [m_is_rain, runM, seqS, frzS, frzs, frz1, retF, retS, ifS, skipS, andE, orE, notE, ifE, valF, vE, vV, kE, kV', callF, ar_nil, ar_cons, dn_fz, dn_ow, dn_bag, dn_scr, d_fz, d_ow, b_of, isiF, isD, blF, cmpF, chainF, orElse, lenS, bltF1, notT, andT, orT, tstF, l_list, l_tuple, l_all, l_listL, l_listT, l_tupL, l_tupT, l_abs, c_lt, c_le, c_gt, c_ge, c_eqI, c_neI, c_inS, c_niS, i_list, i_tuple, i_str, x_list, x_tuple, plainF, ixF, ixS, asgF, unpF, unF, setAll, List.length_cons, List.length_nil, List.map_cons, List.map_nil, if_true, if_false, List.cons_append, List.nil_append, List.append_nil, List.getElem?_cons_zero, List.getElem?_cons_succ, List.replicate, List.set_cons_zero, List.set_cons_succ, Option.bind_some, Option.map_some, Option.bind_none, Option.map_none, Bool.not_true, Bool.not_false, Bool.false_eq_true, Bool.or_false, Bool.or_true, Nat.reduceAdd, Nat.reduceSub, Nat.zero_add, decide_true, decide_false, Bool.true_and, Bool.false_and, Bool.and_true, Bool.and_false, ht, tupLen, isRn]
def isRw (n : Nat) : D → Bool
  | .tuple [h, r] => within h 0 1000 && isRn n r
  | _ => false
theorem tup2 (ds : List D) : tupLen (.tuple ds) 2 2 = decide (ds.length = 2) := by
  unfold tupLen
  rw [Bool.eq_iff_iff]
  simp
  omega
theorem f_is_weather_row (ts : List D) (d : D) (h : gd d = true) : FF (k + 4) "is_weather_row" [.fz (.tuple ts), .fz d] st = some (.fz (.bool (isRw ts.length d)), st) := by
  unfold FF
  rw [e_is_weather_row]
  have ht := fun d a b => f_is_tuple_of (k := k + 2) (st := st) d a b
  have hw := fun d a b => f_is_whole_within (k := k + 1) (st := st) d a b
  have hr := fun d h => f_is_rain (k := k) (st := st) ts d h
  unfold FF at ht hw hr
  cases d with
  | tuple ds =>
    match ds with
    | [a, b] =>
      have hb := (gd_tup h).2 b (by simp)
      cases h1 : within a 0 1000 with
      | false => simp [m_is_weather_row, runM, seqS, frzS, frzs, frz1, retF, retS, ifS, skipS, andE, orE, notE, ifE, valF, vE, vV, kE, kV', callF, ar_nil, ar_cons, dn_fz, dn_ow, dn_bag, dn_scr, d_fz, d_ow, b_of, isiF, isD, blF, cmpF, chainF, orElse, lenS, bltF1, notT, andT, orT, tstF, l_list, l_tuple, l_all, l_listL, l_listT, l_tupL, l_tupT, l_abs, c_lt, c_le, c_gt, c_ge, c_eqI, c_neI, c_inS, c_niS, i_list, i_tuple, i_str, x_list, x_tuple, plainF, ixF, ixS, asgF, unpF, unF, setAll, List.length_cons, List.length_nil, List.map_cons, List.map_nil, if_true, if_false, List.cons_append, List.nil_append, List.append_nil, List.getElem?_cons_zero, List.getElem?_cons_succ, List.replicate, List.set_cons_zero, List.set_cons_succ, Option.bind_some, Option.map_some, Option.bind_none, Option.map_none, Bool.not_true, Bool.not_false, Bool.false_eq_true, Bool.or_false, Bool.or_true, Nat.reduceAdd, Nat.reduceSub, Nat.zero_add, decide_true, decide_false, Bool.true_and, Bool.false_and, Bool.and_true, Bool.and_false, ht, hw, tup2, isRw, h1]
      | true => simp [m_is_weather_row, runM, seqS, frzS, frzs, frz1, retF, retS, ifS, skipS, andE, orE, notE, ifE, valF, vE, vV, kE, kV', callF, ar_nil, ar_cons, dn_fz, dn_ow, dn_bag, dn_scr, d_fz, d_ow, b_of, isiF, isD, blF, cmpF, chainF, orElse, lenS, bltF1, notT, andT, orT, tstF, l_list, l_tuple, l_all, l_listL, l_listT, l_tupL, l_tupT, l_abs, c_lt, c_le, c_gt, c_ge, c_eqI, c_neI, c_inS, c_niS, i_list, i_tuple, i_str, x_list, x_tuple, plainF, ixF, ixS, asgF, unpF, unF, setAll, List.length_cons, List.length_nil, List.map_cons, List.map_nil, if_true, if_false, List.cons_append, List.nil_append, List.append_nil, List.getElem?_cons_zero, List.getElem?_cons_succ, List.replicate, List.set_cons_zero, List.set_cons_succ, Option.bind_some, Option.map_some, Option.bind_none, Option.map_none, Bool.not_true, Bool.not_false, Bool.false_eq_true, Bool.or_false, Bool.or_true, Nat.reduceAdd, Nat.reduceSub, Nat.zero_add, decide_true, decide_false, Bool.true_and, Bool.false_and, Bool.and_true, Bool.and_false, ht, hw, hr b hb, tup2, isRw, h1]
    | [] => simp [m_is_weather_row, runM, seqS, frzS, frzs, frz1, retF, retS, ifS, skipS, andE, orE, notE, ifE, valF, vE, vV, kE, kV', callF, ar_nil, ar_cons, dn_fz, dn_ow, dn_bag, dn_scr, d_fz, d_ow, b_of, isiF, isD, blF, cmpF, chainF, orElse, lenS, bltF1, notT, andT, orT, tstF, l_list, l_tuple, l_all, l_listL, l_listT, l_tupL, l_tupT, l_abs, c_lt, c_le, c_gt, c_ge, c_eqI, c_neI, c_inS, c_niS, i_list, i_tuple, i_str, x_list, x_tuple, plainF, ixF, ixS, asgF, unpF, unF, setAll, List.length_cons, List.length_nil, List.map_cons, List.map_nil, if_true, if_false, List.cons_append, List.nil_append, List.append_nil, List.getElem?_cons_zero, List.getElem?_cons_succ, List.replicate, List.set_cons_zero, List.set_cons_succ, Option.bind_some, Option.map_some, Option.bind_none, Option.map_none, Bool.not_true, Bool.not_false, Bool.false_eq_true, Bool.or_false, Bool.or_true, Nat.reduceAdd, Nat.reduceSub, Nat.zero_add, decide_true, decide_false, Bool.true_and, Bool.false_and, Bool.and_true, Bool.and_false, ht, tup2, isRw]
    | [_] => simp [m_is_weather_row, runM, seqS, frzS, frzs, frz1, retF, retS, ifS, skipS, andE, orE, notE, ifE, valF, vE, vV, kE, kV', callF, ar_nil, ar_cons, dn_fz, dn_ow, dn_bag, dn_scr, d_fz, d_ow, b_of, isiF, isD, blF, cmpF, chainF, orElse, lenS, bltF1, notT, andT, orT, tstF, l_list, l_tuple, l_all, l_listL, l_listT, l_tupL, l_tupT, l_abs, c_lt, c_le, c_gt, c_ge, c_eqI, c_neI, c_inS, c_niS, i_list, i_tuple, i_str, x_list, x_tuple, plainF, ixF, ixS, asgF, unpF, unF, setAll, List.length_cons, List.length_nil, List.map_cons, List.map_nil, if_true, if_false, List.cons_append, List.nil_append, List.append_nil, List.getElem?_cons_zero, List.getElem?_cons_succ, List.replicate, List.set_cons_zero, List.set_cons_succ, Option.bind_some, Option.map_some, Option.bind_none, Option.map_none, Bool.not_true, Bool.not_false, Bool.false_eq_true, Bool.or_false, Bool.or_true, Nat.reduceAdd, Nat.reduceSub, Nat.zero_add, decide_true, decide_false, Bool.true_and, Bool.false_and, Bool.and_true, Bool.and_false, ht, tup2, isRw]
    | _ :: _ :: _ :: r => simp [m_is_weather_row, runM, seqS, frzS, frzs, frz1, retF, retS, ifS, skipS, andE, orE, notE, ifE, valF, vE, vV, kE, kV', callF, ar_nil, ar_cons, dn_fz, dn_ow, dn_bag, dn_scr, d_fz, d_ow, b_of, isiF, isD, blF, cmpF, chainF, orElse, lenS, bltF1, notT, andT, orT, tstF, l_list, l_tuple, l_all, l_listL, l_listT, l_tupL, l_tupT, l_abs, c_lt, c_le, c_gt, c_ge, c_eqI, c_neI, c_inS, c_niS, i_list, i_tuple, i_str, x_list, x_tuple, plainF, ixF, ixS, asgF, unpF, unF, setAll, List.length_cons, List.length_nil, List.map_cons, List.map_nil, if_true, if_false, List.cons_append, List.nil_append, List.append_nil, List.getElem?_cons_zero, List.getElem?_cons_succ, List.replicate, List.set_cons_zero, List.set_cons_succ, Option.bind_some, Option.map_some, Option.bind_none, Option.map_none, Bool.not_true, Bool.not_false, Bool.false_eq_true, Bool.or_false, Bool.or_true, Nat.reduceAdd, Nat.reduceSub, Nat.zero_add, decide_true, decide_false, Bool.true_and, Bool.false_and, Bool.and_true, Bool.and_false, ht, tup2, isRw]
  | _ => simp [m_is_weather_row, runM, seqS, frzS, frzs, frz1, retF, retS, ifS, skipS, andE, orE, notE, ifE, valF, vE, vV, kE, kV', callF, ar_nil, ar_cons, dn_fz, dn_ow, dn_bag, dn_scr, d_fz, d_ow, b_of, isiF, isD, blF, cmpF, chainF, orElse, lenS, bltF1, notT, andT, orT, tstF, l_list, l_tuple, l_all, l_listL, l_listT, l_tupL, l_tupT, l_abs, c_lt, c_le, c_gt, c_ge, c_eqI, c_neI, c_inS, c_niS, i_list, i_tuple, i_str, x_list, x_tuple, plainF, ixF, ixS, asgF, unpF, unF, setAll, List.length_cons, List.length_nil, List.map_cons, List.map_nil, if_true, if_false, List.cons_append, List.nil_append, List.append_nil, List.getElem?_cons_zero, List.getElem?_cons_succ, List.replicate, List.set_cons_zero, List.set_cons_succ, Option.bind_some, Option.map_some, Option.bind_none, Option.map_none, Bool.not_true, Bool.not_false, Bool.false_eq_true, Bool.or_false, Bool.or_true, Nat.reduceAdd, Nat.reduceSub, Nat.zero_add, decide_true, decide_false, Bool.true_and, Bool.false_and, Bool.and_true, Bool.and_false, ht, tupLen, isRw]
theorem isRw_shape {n : Nat} {d : D} (h : isRw n d = true) : ∃ (a : Int) (b : D), d = .tuple [.int a, b] := by
  unfold isRw at h
  split at h
  · rename_i x r
    cases x <;> simp [within] at h
    exact ⟨_, _, rfl⟩
  · cases h
def isWt (n : Nat) : D → Bool
  | .tuple ds => (decide (1 ≤ ds.length) && decide (ds.length ≤ 4)) && (ds.all (isRw n) && (decide ((ds.map hgt).headD 1 = 0) && risingI (ds.map hgt)))
  | _ => false
theorem tup14 (ds : List D) : tupLen (.tuple ds) 1 4 = (decide (1 ≤ ds.length) && decide (ds.length ≤ 4)) := by
  unfold tupLen
  rw [Bool.eq_iff_iff]
  simp
  omega
theorem f_is_weather (ts : List D) (d : D) (h : gd d = true) : FF (k + 5) "is_weather" [.fz (.tuple ts), .fz d] st = some (.fz (.bool (isWt ts.length d)), st) := by
  unfold FF
  rw [e_is_weather]
  have ht := fun d a b => f_is_tuple_of (k := k + 3) (st := st) d a b
  have hh := fun d h => f_is_weather_row (k := k) (st := st) ts d h
  have hr := fun ns h => f_is_rising (k := k + 3) (st := st) ns h
  unfold FF at ht hh hr
  cases d with
  | tuple ds =>
    obtain ⟨hl, hg⟩ := gd_tup h
    have l1 : lcF (plainF (vE 1)) [2] (setF 2) yesT (callF (tbl.F whR 60 (k + 4)) "is_weather_row" (argsF [(vE 0), (vE 2)])) [some (.fz (.tuple ts)), some (.fz (.tuple ds)), none, none, none, none] st = some (.ow (.list (ds.map fun d => .bool (isRw ts.length d))), st) :=
      lcF_map _ rfl (fun d hd => ⟨_, .fz (.bool (isRw ts.length d)), rfl, by simp [wipeE, runM, seqS, frzS, frzs, frz1, retF, retS, ifS, skipS, andE, orE, notE, ifE, valF, vE, vV, kE, kV', callF, ar_nil, ar_cons, dn_fz, dn_ow, dn_bag, dn_scr, d_fz, d_ow, b_of, isiF, isD, blF, cmpF, chainF, orElse, lenS, bltF1, notT, andT, orT, tstF, l_list, l_tuple, l_all, l_listL, l_listT, l_tupL, l_tupT, l_abs, c_lt, c_le, c_gt, c_ge, c_eqI, c_neI, c_inS, c_niS, i_list, i_tuple, i_str, x_list, x_tuple, plainF, ixF, ixS, asgF, unpF, unF, setAll, List.length_cons, List.length_nil, List.map_cons, List.map_nil, if_true, if_false, List.cons_append, List.nil_append, List.append_nil, List.getElem?_cons_zero, List.getElem?_cons_succ, List.replicate, List.set_cons_zero, List.set_cons_succ, Option.bind_some, Option.map_some, Option.bind_none, Option.map_none, Bool.not_true, Bool.not_false, Bool.false_eq_true, Bool.or_false, Bool.or_true, Nat.reduceAdd, Nat.reduceSub, Nat.zero_add, decide_true, decide_false, Bool.true_and, Bool.false_and, Bool.and_true, Bool.and_false, hh d (hg d hd)], rfl⟩) hl
    cases hc : (decide (1 ≤ ds.length) && decide (ds.length ≤ 4)) with
    | false => simp [m_is_weather, runM, seqS, frzS, frzs, frz1, retF, retS, ifS, skipS, andE, orE, notE, ifE, valF, vE, vV, kE, kV', callF, ar_nil, ar_cons, dn_fz, dn_ow, dn_bag, dn_scr, d_fz, d_ow, b_of, isiF, isD, blF, cmpF, chainF, orElse, lenS, bltF1, notT, andT, orT, tstF, l_list, l_tuple, l_all, l_listL, l_listT, l_tupL, l_tupT, l_abs, c_lt, c_le, c_gt, c_ge, c_eqI, c_neI, c_inS, c_niS, i_list, i_tuple, i_str, x_list, x_tuple, plainF, ixF, ixS, asgF, unpF, unF, setAll, List.length_cons, List.length_nil, List.map_cons, List.map_nil, if_true, if_false, List.cons_append, List.nil_append, List.append_nil, List.getElem?_cons_zero, List.getElem?_cons_succ, List.replicate, List.set_cons_zero, List.set_cons_succ, Option.bind_some, Option.map_some, Option.bind_none, Option.map_none, Bool.not_true, Bool.not_false, Bool.false_eq_true, Bool.or_false, Bool.or_true, Nat.reduceAdd, Nat.reduceSub, Nat.zero_add, decide_true, decide_false, Bool.true_and, Bool.false_and, Bool.and_true, Bool.and_false, ht, tup14, hc, isWt]
    | true =>
      have hc' := hc
      simp only [Bool.and_eq_true, decide_eq_true_eq] at hc'
      cases ha : ds.all (isRw ts.length) with
      | false => simp [m_is_weather, runM, seqS, frzS, frzs, frz1, retF, retS, ifS, skipS, andE, orE, notE, ifE, valF, vE, vV, kE, kV', callF, ar_nil, ar_cons, dn_fz, dn_ow, dn_bag, dn_scr, d_fz, d_ow, b_of, isiF, isD, blF, cmpF, chainF, orElse, lenS, bltF1, notT, andT, orT, tstF, l_list, l_tuple, l_all, l_listL, l_listT, l_tupL, l_tupT, l_abs, c_lt, c_le, c_gt, c_ge, c_eqI, c_neI, c_inS, c_niS, i_list, i_tuple, i_str, x_list, x_tuple, plainF, ixF, ixS, asgF, unpF, unF, setAll, List.length_cons, List.length_nil, List.map_cons, List.map_nil, if_true, if_false, List.cons_append, List.nil_append, List.append_nil, List.getElem?_cons_zero, List.getElem?_cons_succ, List.replicate, List.set_cons_zero, List.set_cons_succ, Option.bind_some, Option.map_some, Option.bind_none, Option.map_none, Bool.not_true, Bool.not_false, Bool.false_eq_true, Bool.or_false, Bool.or_true, Nat.reduceAdd, Nat.reduceSub, Nat.zero_add, decide_true, decide_false, Bool.true_and, Bool.false_and, Bool.and_true, Bool.and_false, ht, tup14, hc, l1, all_map, ha, isWt]
      | true =>
        have hm := List.all_eq_true.mp ha
        have l2 : lcF (plainF (vE 1)) [4, 5] (unF [4, 5]) yesT (vE 4) [some (.fz (.tuple ts)), some (.fz (.tuple ds)), none, none, none, none] st = some (.ow (.list (ds.map fun d => .int (hgt d))), st) :=
          lcF_map _ rfl (fun d hd => by
            obtain ⟨x, y, rfl⟩ := isRw_shape (hm d hd)
            exact ⟨_, _, rfl, rfl, rfl⟩) hl
        have e : (ds.map fun d => PyData.int (hgt d)) = (ds.map hgt).map PyData.int := by rw [List.map_map]; rfl
        have hr' := hr (ds.map hgt) (by rw [List.length_map]; omega)
        have hx : atI ((ds.map hgt).map PyData.int) 0 = some (.int ((ds.map hgt).headD 1)) := by
          cases ds with
          | nil => simp at hc'
          | cons a b => exact atI_nat (xs := ((a :: b).map hgt).map PyData.int) (j := 0) rfl
        have e' : ((ds.map hgt).headD 1 == 0) = decide ((ds.map hgt).headD 1 = 0) := by rw [Bool.beq_eq_decide_eq]
        have m1 : m_is_weather whR (tbl.F whR 60 (k + 4)) [some (.fz (.tuple ts)), some (.fz (.tuple ds)), none, none, none, none] st = some (.rt (.fz (.bool (decide ((ds.map hgt).headD 1 = 0) && risingI (ds.map hgt)))), [some (.fz (.tuple ts)), some (.fz (.tuple ds)), none, some (.fz (.list ((ds.map hgt).map PyData.int))), none, none], st) := by
          unfold m_is_weather
          rw [seq_nx (env1 := [some (.fz (.tuple ts)), some (.fz (.tuple ds)), none, none, none, none]) (st1 := st) (by simp only [runM, seqS, frzS, frzs, frz1, retF, retS, ifS, skipS, andE, orE, notE, ifE, valF, vE, vV, kE, kV', callF, ar_nil, ar_cons, dn_fz, dn_ow, dn_bag, dn_scr, d_fz, d_ow, b_of, isiF, isD, blF, cmpF, chainF, orElse, lenS, bltF1, notT, andT, orT, tstF, l_list, l_tuple, l_all, l_listL, l_listT, l_tupL, l_tupT, l_abs, c_lt, c_le, c_gt, c_ge, c_eqI, c_neI, c_inS, c_niS, i_list, i_tuple, i_str, x_list, x_tuple, plainF, ixF, ixS, asgF, unpF, unF, setAll, List.length_cons, List.length_nil, List.map_cons, List.map_nil, if_true, if_false, List.cons_append, List.nil_append, List.append_nil, List.getElem?_cons_zero, List.getElem?_cons_succ, List.replicate, List.set_cons_zero, List.set_cons_succ, Option.bind_some, Option.map_some, Option.bind_none, Option.map_none, Bool.not_true, Bool.not_false, Bool.false_eq_true, Bool.or_false, Bool.or_true, Nat.reduceAdd, Nat.reduceSub, Nat.zero_add, decide_true, decide_false, Bool.true_and, Bool.false_and, Bool.and_true, Bool.and_false, ht, tup14, hc, l1, all_map, ha])]
          rw [seq_nx (env1 := [some (.fz (.tuple ts)), some (.fz (.tuple ds)), none, some (.ow (.list ((ds.map hgt).map PyData.int))), none, none]) (st1 := st) (by rw [← e]; simp only [runM, seqS, frzS, frzs, frz1, retF, retS, ifS, skipS, andE, orE, notE, ifE, valF, vE, vV, kE, kV', callF, ar_nil, ar_cons, dn_fz, dn_ow, dn_bag, dn_scr, d_fz, d_ow, b_of, isiF, isD, blF, cmpF, chainF, orElse, lenS, bltF1, notT, andT, orT, tstF, l_list, l_tuple, l_all, l_listL, l_listT, l_tupL, l_tupT, l_abs, c_lt, c_le, c_gt, c_ge, c_eqI, c_neI, c_inS, c_niS, i_list, i_tuple, i_str, x_list, x_tuple, plainF, ixF, ixS, asgF, unpF, unF, setAll, List.length_cons, List.length_nil, List.map_cons, List.map_nil, if_true, if_false, List.cons_append, List.nil_append, List.append_nil, List.getElem?_cons_zero, List.getElem?_cons_succ, List.replicate, List.set_cons_zero, List.set_cons_succ, Option.bind_some, Option.map_some, Option.bind_none, Option.map_none, Bool.not_true, Bool.not_false, Bool.false_eq_true, Bool.or_false, Bool.or_true, Nat.reduceAdd, Nat.reduceSub, Nat.zero_add, decide_true, decide_false, Bool.true_and, Bool.false_and, Bool.and_true, Bool.and_false, l2])]
          refine seq_rt ?_
          rw [← e']
          generalize (ds.map hgt).headD 1 = hd at hx e'
          generalize (ds.map hgt) = hs at hx hr'
          cases h0 : (hd == 0) with
          | false => simp only [runM, seqS, frzS, frzs, frz1, retF, retS, ifS, skipS, andE, orE, notE, ifE, valF, vE, vV, kE, kV', callF, ar_nil, ar_cons, dn_fz, dn_ow, dn_bag, dn_scr, d_fz, d_ow, b_of, isiF, isD, blF, cmpF, chainF, orElse, lenS, bltF1, notT, andT, orT, tstF, l_list, l_tuple, l_all, l_listL, l_listT, l_tupL, l_tupT, l_abs, c_lt, c_le, c_gt, c_ge, c_eqI, c_neI, c_inS, c_niS, i_list, i_tuple, i_str, x_list, x_tuple, plainF, ixF, ixS, asgF, unpF, unF, setAll, List.length_cons, List.length_nil, List.map_cons, List.map_nil, if_true, if_false, List.cons_append, List.nil_append, List.append_nil, List.getElem?_cons_zero, List.getElem?_cons_succ, List.replicate, List.set_cons_zero, List.set_cons_succ, Option.bind_some, Option.map_some, Option.bind_none, Option.map_none, Bool.not_true, Bool.not_false, Bool.false_eq_true, Bool.or_false, Bool.or_true, Nat.reduceAdd, Nat.reduceSub, Nat.zero_add, decide_true, decide_false, Bool.true_and, Bool.false_and, Bool.and_true, Bool.and_false, hx, h0]
          | true => simp only [runM, seqS, frzS, frzs, frz1, retF, retS, ifS, skipS, andE, orE, notE, ifE, valF, vE, vV, kE, kV', callF, ar_nil, ar_cons, dn_fz, dn_ow, dn_bag, dn_scr, d_fz, d_ow, b_of, isiF, isD, blF, cmpF, chainF, orElse, lenS, bltF1, notT, andT, orT, tstF, l_list, l_tuple, l_all, l_listL, l_listT, l_tupL, l_tupT, l_abs, c_lt, c_le, c_gt, c_ge, c_eqI, c_neI, c_inS, c_niS, i_list, i_tuple, i_str, x_list, x_tuple, plainF, ixF, ixS, asgF, unpF, unF, setAll, List.length_cons, List.length_nil, List.map_cons, List.map_nil, if_true, if_false, List.cons_append, List.nil_append, List.append_nil, List.getElem?_cons_zero, List.getElem?_cons_succ, List.replicate, List.set_cons_zero, List.set_cons_succ, Option.bind_some, Option.map_some, Option.bind_none, Option.map_none, Bool.not_true, Bool.not_false, Bool.false_eq_true, Bool.or_false, Bool.or_true, Nat.reduceAdd, Nat.reduceSub, Nat.zero_add, decide_true, decide_false, Bool.true_and, Bool.false_and, Bool.and_true, Bool.and_false, hx, h0, hr']
        refine (run_rt rfl m1).trans ?_
        simp only [isWt, ha, hc, Bool.true_and]
  | _ => simp [m_is_weather, runM, seqS, frzS, frzs, frz1, retF, retS, ifS, skipS, andE, orE, notE, ifE, valF, vE, vV, kE, kV', callF, ar_nil, ar_cons, dn_fz, dn_ow, dn_bag, dn_scr, d_fz, d_ow, b_of, isiF, isD, blF, cmpF, chainF, orElse, lenS, bltF1, notT, andT, orT, tstF, l_list, l_tuple, l_all, l_listL, l_listT, l_tupL, l_tupT, l_abs, c_lt, c_le, c_gt, c_ge, c_eqI, c_neI, c_inS, c_niS, i_list, i_tuple, i_str, x_list, x_tuple, plainF, ixF, ixS, asgF, unpF, unF, setAll, List.length_cons, List.length_nil, List.map_cons, List.map_nil, if_true, if_false, List.cons_append, List.nil_append, List.append_nil, List.getElem?_cons_zero, List.getElem?_cons_succ, List.replicate, List.set_cons_zero, List.set_cons_succ, Option.bind_some, Option.map_some, Option.bind_none, Option.map_none, Bool.not_true, Bool.not_false, Bool.false_eq_true, Bool.or_false, Bool.or_true, Nat.reduceAdd, Nat.reduceSub, Nat.zero_add, decide_true, decide_false, Bool.true_and, Bool.false_and, Bool.and_true, Bool.and_false, ht, tupLen, isWt]
def isBg (n : Nat) : D → Bool
  | .tuple ds => decide (ds.length = n) && ds.all isFr
  | _ => false
theorem f_is_beginning (ts : List D) (d : D) (h : gd d = true) : FF (k + 3) "is_beginning" [.fz (.tuple ts), .fz d] st = some (.fz (.bool (isBg ts.length d)), st) := by
  unfold FF
  rw [e_is_beginning]
  have ht := fun d a b => f_is_tuple_of (k := k + 1) (st := st) d a b
  have hw := fun d => f_is_fraction (k := k) (st := st) d
  unfold FF at ht hw
  cases d with
  | tuple ds =>
    obtain ⟨hl, hg⟩ := gd_tup h
    have l1 : lcF (plainF (vE 1)) [2] (setF 2) yesT (callF (tbl.F whR 60 (k + 2)) "is_fraction" (argsF [(vE 2)])) [some (.fz (.tuple ts)), some (.fz (.tuple ds)), none] st = some (.ow (.list (ds.map fun d => .bool (isFr d))), st) :=
      lcF_map _ rfl (fun d hd => ⟨_, .fz (.bool (isFr d)), rfl, by simp [wipeE, runM, seqS, frzS, frzs, frz1, retF, retS, ifS, skipS, andE, orE, notE, ifE, valF, vE, vV, kE, kV', callF, ar_nil, ar_cons, dn_fz, dn_ow, dn_bag, dn_scr, d_fz, d_ow, b_of, isiF, isD, blF, cmpF, chainF, orElse, lenS, bltF1, notT, andT, orT, tstF, l_list, l_tuple, l_all, l_listL, l_listT, l_tupL, l_tupT, l_abs, c_lt, c_le, c_gt, c_ge, c_eqI, c_neI, c_inS, c_niS, i_list, i_tuple, i_str, x_list, x_tuple, plainF, ixF, ixS, asgF, unpF, unF, setAll, List.length_cons, List.length_nil, List.map_cons, List.map_nil, if_true, if_false, List.cons_append, List.nil_append, List.append_nil, List.getElem?_cons_zero, List.getElem?_cons_succ, List.replicate, List.set_cons_zero, List.set_cons_succ, Option.bind_some, Option.map_some, Option.bind_none, Option.map_none, Bool.not_true, Bool.not_false, Bool.false_eq_true, Bool.or_false, Bool.or_true, Nat.reduceAdd, Nat.reduceSub, Nat.zero_add, decide_true, decide_false, Bool.true_and, Bool.false_and, Bool.and_true, Bool.and_false, hw], rfl⟩) hl
    by_cases h3 : ds.length = ts.length
    · simp [m_is_beginning, runM, seqS, frzS, frzs, frz1, retF, retS, ifS, skipS, andE, orE, notE, ifE, valF, vE, vV, kE, kV', callF, ar_nil, ar_cons, dn_fz, dn_ow, dn_bag, dn_scr, d_fz, d_ow, b_of, isiF, isD, blF, cmpF, chainF, orElse, lenS, bltF1, notT, andT, orT, tstF, l_list, l_tuple, l_all, l_listL, l_listT, l_tupL, l_tupT, l_abs, c_lt, c_le, c_gt, c_ge, c_eqI, c_neI, c_inS, c_niS, i_list, i_tuple, i_str, x_list, x_tuple, plainF, ixF, ixS, asgF, unpF, unF, setAll, List.length_cons, List.length_nil, List.map_cons, List.map_nil, if_true, if_false, List.cons_append, List.nil_append, List.append_nil, List.getElem?_cons_zero, List.getElem?_cons_succ, List.replicate, List.set_cons_zero, List.set_cons_succ, Option.bind_some, Option.map_some, Option.bind_none, Option.map_none, Bool.not_true, Bool.not_false, Bool.false_eq_true, Bool.or_false, Bool.or_true, Nat.reduceAdd, Nat.reduceSub, Nat.zero_add, decide_true, decide_false, Bool.true_and, Bool.false_and, Bool.and_true, Bool.and_false, ht, tupN, h3, l1, all_map, isBg]
    · simp [m_is_beginning, runM, seqS, frzS, frzs, frz1, retF, retS, ifS, skipS, andE, orE, notE, ifE, valF, vE, vV, kE, kV', callF, ar_nil, ar_cons, dn_fz, dn_ow, dn_bag, dn_scr, d_fz, d_ow, b_of, isiF, isD, blF, cmpF, chainF, orElse, lenS, bltF1, notT, andT, orT, tstF, l_list, l_tuple, l_all, l_listL, l_listT, l_tupL, l_tupT, l_abs, c_lt, c_le, c_gt, c_ge, c_eqI, c_neI, c_inS, c_niS, i_list, i_tuple, i_str, x_list, x_tuple, plainF, ixF, ixS, asgF, unpF, unF, setAll, List.length_cons, List.length_nil, List.map_cons, List.map_nil, if_true, if_false, List.cons_append, List.nil_append, List.append_nil, List.getElem?_cons_zero, List.getElem?_cons_succ, List.replicate, List.set_cons_zero, List.set_cons_succ, Option.bind_some, Option.map_some, Option.bind_none, Option.map_none, Bool.not_true, Bool.not_false, Bool.false_eq_true, Bool.or_false, Bool.or_true, Nat.reduceAdd, Nat.reduceSub, Nat.zero_add, decide_true, decide_false, Bool.true_and, Bool.false_and, Bool.and_true, Bool.and_false, ht, tupN, h3, isBg]
  | _ => simp [m_is_beginning, runM, seqS, frzS, frzs, frz1, retF, retS, ifS, skipS, andE, orE, notE, ifE, valF, vE, vV, kE, kV', callF, ar_nil, ar_cons, dn_fz, dn_ow, dn_bag, dn_scr, d_fz, d_ow, b_of, isiF, isD, blF, cmpF, chainF, orElse, lenS, bltF1, notT, andT, orT, tstF, l_list, l_tuple, l_all, l_listL, l_listT, l_tupL, l_tupT, l_abs, c_lt, c_le, c_gt, c_ge, c_eqI, c_neI, c_inS, c_niS, i_list, i_tuple, i_str, x_list, x_tuple, plainF, ixF, ixS, asgF, unpF, unF, setAll, List.length_cons, List.length_nil, List.map_cons, List.map_nil, if_true, if_false, List.cons_append, List.nil_append, List.append_nil, List.getElem?_cons_zero, List.getElem?_cons_succ, List.replicate, List.set_cons_zero, List.set_cons_succ, Option.bind_some, Option.map_some, Option.bind_none, Option.map_none, Bool.not_true, Bool.not_false, Bool.false_eq_true, Bool.or_false, Bool.or_true, Nat.reduceAdd, Nat.reduceSub, Nat.zero_add, decide_true, decide_false, Bool.true_and, Bool.false_and, Bool.and_true, Bool.and_false, ht, tupLen, isBg]
end K01

set_option maxHeartbeats 4000000
namespace K01
open PySem PySem.Spec PyProof.Rows L2 Iv
variable {k : Nat} {st : BSt}
/-! ### names among names -/
theorem lay_strs : ∀ {l : List Str}, (∀ x ∈ l, PyData.strOk x = true) → PyData.canLayAll0 (l.map PyData.str) = true
  | [], _ => rfl
  | x :: l, h => by
    show (PyData.strOk x && PyData.canLayAll0 (l.map PyData.str)) = true
    rw [h x List.mem_cons_self, lay_strs fun y hy => h y (List.mem_cons_of_mem _ hy)]; rfl
theorem dep_strs : ∀ l : List Str, PyData.depthAll (l.map PyData.str) = 0
  | [] => rfl
  | x :: l => by
    show max 0 (PyData.depthAll (l.map PyData.str)) = 0
    rw [dep_strs l]; rfl
theorem sh_strs {l : List Str} (h : ∀ x ∈ l, PyData.strOk x = true) : SeqAt.shaped (.list (l.map PyData.str)) = true := by
  show (PyData.canLayAll0 (l.map PyData.str) && decide (PyData.depthAll (l.map PyData.str) + 1 ≤ 64)) = true
  rw [lay_strs h, dep_strs]; rfl
def hasS (l : List Str) (n : Str) : Bool := l.any fun z => z == n
theorem any_strs (l : List Str) (n : Str) : ((l.map PyData.str).any fun z => PyData.eqv z (.str n)) = hasS l n := by
  unfold hasS
  rw [List.any_map]
  rfl
theorem c_inL {l : List Str} {n : Str} (hn : PyData.strOk n = true) (h : ∀ x ∈ l, PyData.strOk x = true) : cmpD .In (.str n) (.list (l.map PyData.str)) = some (hasS l n) := by
  show (if SeqAt.shaped (.str n) && SeqAt.shaped (.list (l.map PyData.str)) then some ((l.map PyData.str).any fun z => PyData.eqv z (.str n)) else none) = _
  rw [sh_str hn, sh_strs h, any_strs]; rfl
theorem c_niL {l : List Str} {n : Str} (hn : PyData.strOk n = true) (h : ∀ x ∈ l, PyData.strOk x = true) : cmpD .NotIn (.str n) (.list (l.map PyData.str)) = some (!hasS l n) := by
  show (if SeqAt.shaped (.str n) && SeqAt.shaped (.list (l.map PyData.str)) then some (!((l.map PyData.str).any fun z => PyData.eqv z (.str n))) else none) = _
  rw [sh_str hn, sh_strs h, any_strs]; rfl
/-! ### tubs among tubs -/
def goes (behind : List Str) : D → Bool
  | .tuple [_, _, .str z] => (z == "") || hasS behind z
  | _ => false
def fits (n : Str) (hs : List D) (ahead behind : List Str) : Bool := !hasS ahead n && hs.all (goes behind)
theorem isWy_shape {d : D} (h : isWy d = true) : ∃ z, d = .str z := by
  cases d <;> first | exact ⟨_, rfl⟩ | cases h
theorem isHl_shape3 {d : D} (h : isHl d = true) : ∃ (a b : D) (z : Str), d = .tuple [a, b, .str z] := by
  unfold isHl at h
  split at h
  · rename_i x r i
    simp only [Bool.and_eq_true] at h
    obtain ⟨z, rfl⟩ := isWy_shape h.2.2
    exact ⟨_, _, _, rfl⟩
  · cases h
theorem f_fits_among (n : Str) (g : D) (hs : List D) (ahead behind : List Str) (hn : PyData.strOk n = true) (ha : ∀ x ∈ ahead, PyData.strOk x = true) (hb : ∀ x ∈ behind, PyData.strOk x = true) (hh : hs.all isHl = true) (hg : gd (.tuple hs) = true) :
    FF (k + 1) "fits_among" [.fz (.tuple [.str n, g, .tuple hs]), .fz (.list (ahead.map .str)), .fz (.list (behind.map .str))] st = some (.fz (.bool (fits n hs ahead behind)), st) := by
  unfold FF
  rw [e_fits_among]
  obtain ⟨hl, hgd⟩ := gd_tup hg
  have hm := List.all_eq_true.mp hh
  let env : Env' := [some (.fz (.tuple [.str n, g, .tuple hs])), some (.fz (.list (ahead.map .str))), some (.fz (.list (behind.map .str))), some (.fz (.str n)), some (.fz g), some (.fz (.tuple hs)), none, none, none]
  have l1 : lcF (plainF (vE 5)) [6, 7, 8] (unF [6, 7, 8]) yesT (orE (valF (blF (cmpF .Eq (vV 8) (kV' (.str ""))))) (blF (cmpF .In (vV 8) (vV 2)))) env st = some (.ow (.list (hs.map fun d => .bool (goes behind d))), st) := by
    refine lcF_map _ rfl (fun d hd => ?_) hl
    obtain ⟨a, b, z, rfl⟩ := isHl_shape3 (hm d hd)
    have hz : PyData.strOk z = true := (gd_str ((gd_tup (hgd _ hd)).2 (.str z) (by simp))).2
    refine ⟨_, .fz (.bool (goes behind (.tuple [a, b, .str z]))), rfl, ?_, rfl⟩
    have c1 : cmpD .Eq (.str z) (.str "") = some (z == "") := c_eqS hz (by decide +kernel)
    have c2 := c_inL hz hb
    generalize hbb : behind.map PyData.str = bb at c2
    cases hq : (z == ("" : Str)) with
    | true => simp only [env, wipeE, hbb, runM, seqS, frzS, frzs, frz1, retF, retS, ifS, skipS, andE, orE, notE, ifE, valF, vE, vV, kE, kV', callF, ar_nil, ar_cons, dn_fz, dn_ow, dn_bag, dn_scr, d_fz, d_ow, b_of, isiF, isD, blF, cmpF, chainF, orElse, lenS, bltF1, notT, andT, orT, tstF, l_list, l_tuple, l_all, l_listL, l_listT, l_tupL, l_tupT, l_abs, c_lt, c_le, c_gt, c_ge, c_eqI, c_neI, c_inS, c_niS, i_list, i_tuple, i_str, x_list, x_tuple, plainF, ixF, ixS, asgF, unpF, unF, setAll, List.length_cons, List.length_nil, List.map_cons, List.map_nil, if_true, if_false, List.cons_append, List.nil_append, List.append_nil, List.getElem?_cons_zero, List.getElem?_cons_succ, List.replicate, List.set_cons_zero, List.set_cons_succ, Option.bind_some, Option.map_some, Option.bind_none, Option.map_none, Bool.not_true, Bool.not_false, Bool.false_eq_true, Bool.or_false, Bool.or_true, Nat.reduceAdd, Nat.reduceSub, Nat.zero_add, decide_true, decide_false, Bool.true_and, Bool.false_and, Bool.and_true, Bool.and_false, c1, hq, goes, Bool.true_or]
    | false => simp only [env, wipeE, hbb, runM, seqS, frzS, frzs, frz1, retF, retS, ifS, skipS, andE, orE, notE, ifE, valF, vE, vV, kE, kV', callF, ar_nil, ar_cons, dn_fz, dn_ow, dn_bag, dn_scr, d_fz, d_ow, b_of, isiF, isD, blF, cmpF, chainF, orElse, lenS, bltF1, notT, andT, orT, tstF, l_list, l_tuple, l_all, l_listL, l_listT, l_tupL, l_tupT, l_abs, c_lt, c_le, c_gt, c_ge, c_eqI, c_neI, c_inS, c_niS, i_list, i_tuple, i_str, x_list, x_tuple, plainF, ixF, ixS, asgF, unpF, unF, setAll, List.length_cons, List.length_nil, List.map_cons, List.map_nil, if_true, if_false, List.cons_append, List.nil_append, List.append_nil, List.getElem?_cons_zero, List.getElem?_cons_succ, List.replicate, List.set_cons_zero, List.set_cons_succ, Option.bind_some, Option.map_some, Option.bind_none, Option.map_none, Bool.not_true, Bool.not_false, Bool.false_eq_true, Bool.or_false, Bool.or_true, Nat.reduceAdd, Nat.reduceSub, Nat.zero_add, decide_true, decide_false, Bool.true_and, Bool.false_and, Bool.and_true, Bool.and_false, c1, hq, c2, goes, Bool.false_or]
  have c3 := c_niL hn ha
  refine run_rt (env1 := env) rfl ?_
  unfold m_fits_among
  rw [seq_nx (env1 := env) (st1 := st) rfl]
  refine seq_rt ?_
  unfold fits
  have l1' := l1
  generalize haa : ahead.map PyData.str = aa at c3
  cases hq : hasS ahead n with
  | true => simp only [env, haa, runM, seqS, frzS, frzs, frz1, retF, retS, ifS, skipS, andE, orE, notE, ifE, valF, vE, vV, kE, kV', callF, ar_nil, ar_cons, dn_fz, dn_ow, dn_bag, dn_scr, d_fz, d_ow, b_of, isiF, isD, blF, cmpF, chainF, orElse, lenS, bltF1, notT, andT, orT, tstF, l_list, l_tuple, l_all, l_listL, l_listT, l_tupL, l_tupT, l_abs, c_lt, c_le, c_gt, c_ge, c_eqI, c_neI, c_inS, c_niS, i_list, i_tuple, i_str, x_list, x_tuple, plainF, ixF, ixS, asgF, unpF, unF, setAll, List.length_cons, List.length_nil, List.map_cons, List.map_nil, if_true, if_false, List.cons_append, List.nil_append, List.append_nil, List.getElem?_cons_zero, List.getElem?_cons_succ, List.replicate, List.set_cons_zero, List.set_cons_succ, Option.bind_some, Option.map_some, Option.bind_none, Option.map_none, Bool.not_true, Bool.not_false, Bool.false_eq_true, Bool.or_false, Bool.or_true, Nat.reduceAdd, Nat.reduceSub, Nat.zero_add, decide_true, decide_false, Bool.true_and, Bool.false_and, Bool.and_true, Bool.and_false, c3, hq]
  | false =>
    simp only [env, haa] at l1 ⊢
    simp only [runM, seqS, frzS, frzs, frz1, retF, retS, ifS, skipS, andE, orE, notE, ifE, valF, vE, vV, kE, kV', callF, ar_nil, ar_cons, dn_fz, dn_ow, dn_bag, dn_scr, d_fz, d_ow, b_of, isiF, isD, blF, cmpF, chainF, orElse, lenS, bltF1, notT, andT, orT, tstF, l_list, l_tuple, l_all, l_listL, l_listT, l_tupL, l_tupT, l_abs, c_lt, c_le, c_gt, c_ge, c_eqI, c_neI, c_inS, c_niS, i_list, i_tuple, i_str, x_list, x_tuple, plainF, ixF, ixS, asgF, unpF, unF, setAll, List.length_cons, List.length_nil, List.map_cons, List.map_nil, if_true, if_false, List.cons_append, List.nil_append, List.append_nil, List.getElem?_cons_zero, List.getElem?_cons_succ, List.replicate, List.set_cons_zero, List.set_cons_succ, Option.bind_some, Option.map_some, Option.bind_none, Option.map_none, Bool.not_true, Bool.not_false, Bool.false_eq_true, Bool.or_false, Bool.or_true, Nat.reduceAdd, Nat.reduceSub, Nat.zero_add, decide_true, decide_false, Bool.true_and, Bool.false_and, Bool.and_true, Bool.and_false, c3, hq, l1, all_map]
def nm : D → Str
  | .tuple (.str n :: _) => n
  | _ => ""
def hol : D → List D
  | .tuple [_, _, .tuple hs] => hs
  | _ => []
theorem isTb_shape {d : D} (h : isTb d = true) : ∃ (n : Str) (g : D) (hs : List D), d = .tuple [.str n, g, .tuple hs] ∧ hs.all isHl = true := by
  unfold isTb at h
  split at h
  · rename_i x g y
    simp only [Bool.and_eq_true] at h
    obtain ⟨h1, _, h3⟩ := h
    cases x with
    | str n =>
      cases y with
      | tuple hs =>
        simp only [arHl, Bool.and_eq_true] at h3
        exact ⟨n, g, hs, rfl, h3.2.1⟩
      | _ => cases h3
    | _ => cases h1
  · cases h
theorem cut_take {α : Type} (xs : List α) (i : Nat) : cutL xs none (some (i : Int)) = xs.take i := by
  unfold cutL
  rw [HT.sIx_none, HT.sIx_nat]
  simp only [List.drop_zero, Nat.sub_zero]
  rcases Nat.le_total i xs.length with h | h
  · rw [Nat.min_eq_left h]
  · rw [Nat.min_eq_right h, List.take_of_length_le (Nat.le_refl _), List.take_of_length_le h]
theorem cut_drop {α : Type} (xs : List α) (i : Nat) : cutL xs (some (i : Int)) none = xs.drop i := by
  unfold cutL
  rw [HT.sIx_none, HT.sIx_nat]
  rcases Nat.le_total i xs.length with h | h
  · rw [Nat.min_eq_left h, List.take_of_length_le (by rw [List.length_drop]; omega)]
  · rw [Nat.min_eq_right h, List.drop_of_length_le (Nat.le_refl _), List.drop_of_length_le h, List.take_nil]
def fitE (names : List Str) : D → Bool
  | .tuple [.int i, d] => fits (nm d) (hol d) (names.take i.toNat) (names.drop (i.toNat + 1))
  | _ => false
def arTb : D → Bool
  | .tuple ds => (decide (1 ≤ ds.length) && decide (ds.length ≤ 3)) && (ds.all isTb && (enumD 0 ds).all (fitE (ds.map nm)))
  | _ => false
theorem tup13 (ds : List D) : tupLen (.tuple ds) 1 3 = (decide (1 ≤ ds.length) && decide (ds.length ≤ 3)) := by
  unfold tupLen
  rw [Bool.eq_iff_iff]
  simp
  omega
theorem enumD_mem : ∀ (ds : List D) (n : Nat) {x : D}, x ∈ enumD n ds → ∃ (i : Nat) (d : D), x = .tuple [.int (i : Nat), d] ∧ d ∈ ds
  | d :: ds, n, x, h => by
    rcases List.mem_cons.mp (show x ∈ PyData.tuple [.int (n : Nat), d] :: enumD (n + 1) ds from h) with rfl | h
    · exact ⟨n, d, rfl, List.mem_cons_self⟩
    · obtain ⟨i, e, h1, h2⟩ := enumD_mem ds (n + 1) h
      exact ⟨i, e, h1, List.mem_cons_of_mem _ h2⟩
theorem nm_ok {ds : List D} (hb : ∀ d ∈ ds, isTb d = true) (hg : ∀ d ∈ ds, gd d = true) : ∀ x ∈ ds.map nm, PyData.strOk x = true := by
  intro x hx
  obtain ⟨d, hd, rfl⟩ := List.mem_map.mp hx
  obtain ⟨n, g, hs, rfl, _⟩ := isTb_shape (hb d hd)
  exact (gd_str ((gd_tup (hg _ hd)).2 (.str n) (by simp))).2
theorem f_names_of {ds : List D} (hm : ∀ d ∈ ds, isTb d = true) (hl : ds.length ≤ sizeLine) : FF (k + 1) "names_of" [.fz (.tuple ds)] st = some (.ow (.list (ds.map fun d => .str (nm d))), st) := by
  unfold FF
  rw [e_names_of]
  have l2 : lcF (plainF (vE 0)) [1, 2, 3] (unF [1, 2, 3]) yesT (vE 1) [some (.fz (.tuple ds)), none, none, none] st = some (.ow (.list (ds.map fun d => .str (nm d))), st) :=
    lcF_map _ rfl (fun d hd => by
      obtain ⟨n, g, hs, rfl, _⟩ := isTb_shape (hm d hd)
      exact ⟨_, _, rfl, rfl, rfl⟩) hl
  refine run_rt (env1 := [some (.fz (.tuple ds)), none, none, none]) rfl ?_
  unfold m_names_of
  refine seq_rt ?_
  simp only [runM, seqS, frzS, frzs, frz1, retF, retS, ifS, skipS, andE, orE, notE, ifE, valF, vE, vV, kE, kV', callF, ar_nil, ar_cons, dn_fz, dn_ow, dn_bag, dn_scr, d_fz, d_ow, b_of, isiF, isD, blF, cmpF, chainF, orElse, lenS, bltF1, notT, andT, orT, tstF, l_list, l_tuple, l_all, l_listL, l_listT, l_tupL, l_tupT, l_abs, c_lt, c_le, c_gt, c_ge, c_eqI, c_neI, c_inS, c_niS, i_list, i_tuple, i_str, x_list, x_tuple, plainF, ixF, ixS, asgF, unpF, unF, setAll, List.length_cons, List.length_nil, List.map_cons, List.map_nil, if_true, if_false, List.cons_append, List.nil_append, List.append_nil, List.getElem?_cons_zero, List.getElem?_cons_succ, List.replicate, List.set_cons_zero, List.set_cons_succ, Option.bind_some, Option.map_some, Option.bind_none, Option.map_none, Bool.not_true, Bool.not_false, Bool.false_eq_true, Bool.or_false, Bool.or_true, Nat.reduceAdd, Nat.reduceSub, Nat.zero_add, decide_true, decide_false, Bool.true_and, Bool.false_and, Bool.and_true, Bool.and_false, l2]
theorem f_are_tubs (d : D) (h : gd d = true) : FF (k + 6) "are_tubs" [.fz d] st = some (.fz (.bool (arTb d)), st) := by
  unfold FF
  rw [e_are_tubs]
  have ht := fun d a b => f_is_tuple_of (k := k + 4) (st := st) d a b
  have hh := fun d h => f_is_tub (k := k) (st := st) d h
  have hf := fun n g hs ah be h1 h2 h3 h4 h5 => f_fits_among (k := k + 4) (st := st) n g hs ah be h1 h2 h3 h4 h5
  unfold FF at ht hh hf
  cases d with
  | tuple ds =>
    obtain ⟨hl, hg⟩ := gd_tup h
    have l1 : lcF (plainF (vE 0)) [1] (setF 1) yesT (callF (tbl.F whR 60 (k + 5)) "is_tub" (argsF [(vE 1)])) [some (.fz (.tuple ds)), none, none, none, none] st = some (.ow (.list (ds.map fun d => .bool (isTb d))), st) :=
      lcF_map _ rfl (fun d hd => ⟨_, .fz (.bool (isTb d)), rfl, by simp [wipeE, runM, seqS, frzS, frzs, frz1, retF, retS, ifS, skipS, andE, orE, notE, ifE, valF, vE, vV, kE, kV', callF, ar_nil, ar_cons, dn_fz, dn_ow, dn_bag, dn_scr, d_fz, d_ow, b_of, isiF, isD, blF, cmpF, chainF, orElse, lenS, bltF1, notT, andT, orT, tstF, l_list, l_tuple, l_all, l_listL, l_listT, l_tupL, l_tupT, l_abs, c_lt, c_le, c_gt, c_ge, c_eqI, c_neI, c_inS, c_niS, i_list, i_tuple, i_str, x_list, x_tuple, plainF, ixF, ixS, asgF, unpF, unF, setAll, List.length_cons, List.length_nil, List.map_cons, List.map_nil, if_true, if_false, List.cons_append, List.nil_append, List.append_nil, List.getElem?_cons_zero, List.getElem?_cons_succ, List.replicate, List.set_cons_zero, List.set_cons_succ, Option.bind_some, Option.map_some, Option.bind_none, Option.map_none, Bool.not_true, Bool.not_false, Bool.false_eq_true, Bool.or_false, Bool.or_true, Nat.reduceAdd, Nat.reduceSub, Nat.zero_add, decide_true, decide_false, Bool.true_and, Bool.false_and, Bool.and_true, Bool.and_false, hh d (hg d hd)], rfl⟩) hl
    cases hc : (decide (1 ≤ ds.length) && decide (ds.length ≤ 3)) with
    | false => simp [m_are_tubs, runM, seqS, frzS, frzs, frz1, retF, retS, ifS, skipS, andE, orE, notE, ifE, valF, vE, vV, kE, kV', callF, ar_nil, ar_cons, dn_fz, dn_ow, dn_bag, dn_scr, d_fz, d_ow, b_of, isiF, isD, blF, cmpF, chainF, orElse, lenS, bltF1, notT, andT, orT, tstF, l_list, l_tuple, l_all, l_listL, l_listT, l_tupL, l_tupT, l_abs, c_lt, c_le, c_gt, c_ge, c_eqI, c_neI, c_inS, c_niS, i_list, i_tuple, i_str, x_list, x_tuple, plainF, ixF, ixS, asgF, unpF, unF, setAll, List.length_cons, List.length_nil, List.map_cons, List.map_nil, if_true, if_false, List.cons_append, List.nil_append, List.append_nil, List.getElem?_cons_zero, List.getElem?_cons_succ, List.replicate, List.set_cons_zero, List.set_cons_succ, Option.bind_some, Option.map_some, Option.bind_none, Option.map_none, Bool.not_true, Bool.not_false, Bool.false_eq_true, Bool.or_false, Bool.or_true, Nat.reduceAdd, Nat.reduceSub, Nat.zero_add, decide_true, decide_false, Bool.true_and, Bool.false_and, Bool.and_true, Bool.and_false, ht, tup13, hc, arTb]
    | true =>
      cases ha : ds.all isTb with
      | false => simp [m_are_tubs, runM, seqS, frzS, frzs, frz1, retF, retS, ifS, skipS, andE, orE, notE, ifE, valF, vE, vV, kE, kV', callF, ar_nil, ar_cons, dn_fz, dn_ow, dn_bag, dn_scr, d_fz, d_ow, b_of, isiF, isD, blF, cmpF, chainF, orElse, lenS, bltF1, notT, andT, orT, tstF, l_list, l_tuple, l_all, l_listL, l_listT, l_tupL, l_tupT, l_abs, c_lt, c_le, c_gt, c_ge, c_eqI, c_neI, c_inS, c_niS, i_list, i_tuple, i_str, x_list, x_tuple, plainF, ixF, ixS, asgF, unpF, unF, setAll, List.length_cons, List.length_nil, List.map_cons, List.map_nil, if_true, if_false, List.cons_append, List.nil_append, List.append_nil, List.getElem?_cons_zero, List.getElem?_cons_succ, List.replicate, List.set_cons_zero, List.set_cons_succ, Option.bind_some, Option.map_some, Option.bind_none, Option.map_none, Bool.not_true, Bool.not_false, Bool.false_eq_true, Bool.or_false, Bool.or_true, Nat.reduceAdd, Nat.reduceSub, Nat.zero_add, decide_true, decide_false, Bool.true_and, Bool.false_and, Bool.and_true, Bool.and_false, ht, tup13, hc, l1, all_map, ha, arTb]
      | true =>
        have hm := List.all_eq_true.mp ha
        have ok := nm_ok hm hg
        have l2 : tbl.F whR 60 (k + 5) "names_of" [.fz (.tuple ds)] st = some (.ow (.list (ds.map fun d => .str (nm d))), st) := f_names_of (k := k + 4) hm hl
        have e : (ds.map fun d => PyData.str (nm d)) = (ds.map nm).map PyData.str := by rw [List.map_map]; rfl
        rw [e] at l2
        have l3 : lcF (enumF (vE 0)) [3, 4] (unF [3, 4]) yesT (callF (tbl.F whR 60 (k + 5)) "fits_among" (argsF [(vE 4), (slF (vV 2) (partF none) (partF (some (vV 3)))), (slF (vV 2) (partF (some (valF (binF .Add (vV 3) (valF (kE (.int 1))))))) (partF none))]))
            [some (.fz (.tuple ds)), none, some (.ow (.list ((ds.map nm).map PyData.str))), none, none] st = some (.ow (.list ((enumD 0 ds).map fun d => .bool (fitE (ds.map nm) d))), st) := by
          refine lcF_map _ rfl (fun x hx => ?_) (by rw [enumD_len]; exact hl)
          obtain ⟨i, d, rfl, hd⟩ := enumD_mem ds 0 hx
          obtain ⟨n, g, hs, rfl, hhs⟩ := isTb_shape (hm d hd)
          have g1 := (gd_tup (hg _ hd)).2
          have hn := (gd_str (g1 (.str n) (by simp))).2
          have hgs := g1 (.tuple hs) (by simp)
          refine ⟨_, .fz (.bool (fitE (ds.map nm) (.tuple [.int (i : Nat), .tuple [.str n, g, .tuple hs]]))), rfl, ?_, rfl⟩
          generalize ds.map nm = ns at ok
          have q := hf n g hs (ns.take i) (ns.drop (i + 1)) hn (fun x hx => ok x (List.mem_of_mem_take hx)) (fun x hx => ok x (List.mem_of_mem_drop hx)) hhs hgs
          have c1 : cutL (ns.map PyData.str) none (some (i : Int)) = (ns.take i).map PyData.str := by rw [cut_take, List.map_take]
          have c2 : cutL (ns.map PyData.str) (some ((i : Int) + 1)) none = (ns.drop (i + 1)).map PyData.str := by
            have := cut_drop (ns.map PyData.str) (i + 1)
            rw [List.map_drop]
            exact this
          have b1 : binD .Add (.int (i : Int)) (.int 1) = some (.fz (.int ((i : Int) + 1))) := rfl
          generalize ns.map PyData.str = nd at c1 c2
          simp only [wipeE, slF, partF, binF, b1, y_list, c1, c2, runM, seqS, frzS, frzs, frz1, retF, retS, ifS, skipS, andE, orE, notE, ifE, valF, vE, vV, kE, kV', callF, ar_nil, ar_cons, dn_fz, dn_ow, dn_bag, dn_scr, d_fz, d_ow, b_of, isiF, isD, blF, cmpF, chainF, orElse, lenS, bltF1, notT, andT, orT, tstF, l_list, l_tuple, l_all, l_listL, l_listT, l_tupL, l_tupT, l_abs, c_lt, c_le, c_gt, c_ge, c_eqI, c_neI, c_inS, c_niS, i_list, i_tuple, i_str, x_list, x_tuple, plainF, ixF, ixS, asgF, unpF, unF, setAll, List.length_cons, List.length_nil, List.map_cons, List.map_nil, if_true, if_false, List.cons_append, List.nil_append, List.append_nil, List.getElem?_cons_zero, List.getElem?_cons_succ, List.replicate, List.set_cons_zero, List.set_cons_succ, Option.bind_some, Option.map_some, Option.bind_none, Option.map_none, Bool.not_true, Bool.not_false, Bool.false_eq_true, Bool.or_false, Bool.or_true, Nat.reduceAdd, Nat.reduceSub, Nat.zero_add, decide_true, decide_false, Bool.true_and, Bool.false_and, Bool.and_true, Bool.and_false]
          exact q
        have m1 : m_are_tubs whR (tbl.F whR 60 (k + 5)) [some (.fz (.tuple ds)), none, none, none, none] st = some (.rt (.fz (.bool ((enumD 0 ds).all (fitE (ds.map nm))))), [some (.fz (.tuple ds)), none, some (.ow (.list ((ds.map nm).map PyData.str))), none, none], st) := by
          unfold m_are_tubs
          rw [seq_nx (env1 := [some (.fz (.tuple ds)), none, none, none, none]) (st1 := st) (by simp only [runM, seqS, frzS, frzs, frz1, retF, retS, ifS, skipS, andE, orE, notE, ifE, valF, vE, vV, kE, kV', callF, ar_nil, ar_cons, dn_fz, dn_ow, dn_bag, dn_scr, d_fz, d_ow, b_of, isiF, isD, blF, cmpF, chainF, orElse, lenS, bltF1, notT, andT, orT, tstF, l_list, l_tuple, l_all, l_listL, l_listT, l_tupL, l_tupT, l_abs, c_lt, c_le, c_gt, c_ge, c_eqI, c_neI, c_inS, c_niS, i_list, i_tuple, i_str, x_list, x_tuple, plainF, ixF, ixS, asgF, unpF, unF, setAll, List.length_cons, List.length_nil, List.map_cons, List.map_nil, if_true, if_false, List.cons_append, List.nil_append, List.append_nil, List.getElem?_cons_zero, List.getElem?_cons_succ, List.replicate, List.set_cons_zero, List.set_cons_succ, Option.bind_some, Option.map_some, Option.bind_none, Option.map_none, Bool.not_true, Bool.not_false, Bool.false_eq_true, Bool.or_false, Bool.or_true, Nat.reduceAdd, Nat.reduceSub, Nat.zero_add, decide_true, decide_false, Bool.true_and, Bool.false_and, Bool.and_true, Bool.and_false, ht, tup13, hc, l1, all_map, ha])]
          rw [seq_nx (env1 := [some (.fz (.tuple ds)), none, some (.ow (.list ((ds.map nm).map PyData.str))), none, none]) (st1 := st) (by simp only [runM, seqS, frzS, frzs, frz1, retF, retS, ifS, skipS, andE, orE, notE, ifE, valF, vE, vV, kE, kV', callF, ar_nil, ar_cons, dn_fz, dn_ow, dn_bag, dn_scr, d_fz, d_ow, b_of, isiF, isD, blF, cmpF, chainF, orElse, lenS, bltF1, notT, andT, orT, tstF, l_list, l_tuple, l_all, l_listL, l_listT, l_tupL, l_tupT, l_abs, c_lt, c_le, c_gt, c_ge, c_eqI, c_neI, c_inS, c_niS, i_list, i_tuple, i_str, x_list, x_tuple, plainF, ixF, ixS, asgF, unpF, unF, setAll, List.length_cons, List.length_nil, List.map_cons, List.map_nil, if_true, if_false, List.cons_append, List.nil_append, List.append_nil, List.getElem?_cons_zero, List.getElem?_cons_succ, List.replicate, List.set_cons_zero, List.set_cons_succ, Option.bind_some, Option.map_some, Option.bind_none, Option.map_none, Bool.not_true, Bool.not_false, Bool.false_eq_true, Bool.or_false, Bool.or_true, Nat.reduceAdd, Nat.reduceSub, Nat.zero_add, decide_true, decide_false, Bool.true_and, Bool.false_and, Bool.and_true, Bool.and_false, l2])]
          refine seq_rt ?_
          generalize (ds.map nm).map PyData.str = nd at l3
          simp only [runM, seqS, frzS, frzs, frz1, retF, retS, ifS, skipS, andE, orE, notE, ifE, valF, vE, vV, kE, kV', callF, ar_nil, ar_cons, dn_fz, dn_ow, dn_bag, dn_scr, d_fz, d_ow, b_of, isiF, isD, blF, cmpF, chainF, orElse, lenS, bltF1, notT, andT, orT, tstF, l_list, l_tuple, l_all, l_listL, l_listT, l_tupL, l_tupT, l_abs, c_lt, c_le, c_gt, c_ge, c_eqI, c_neI, c_inS, c_niS, i_list, i_tuple, i_str, x_list, x_tuple, plainF, ixF, ixS, asgF, unpF, unF, setAll, List.length_cons, List.length_nil, List.map_cons, List.map_nil, if_true, if_false, List.cons_append, List.nil_append, List.append_nil, List.getElem?_cons_zero, List.getElem?_cons_succ, List.replicate, List.set_cons_zero, List.set_cons_succ, Option.bind_some, Option.map_some, Option.bind_none, Option.map_none, Bool.not_true, Bool.not_false, Bool.false_eq_true, Bool.or_false, Bool.or_true, Nat.reduceAdd, Nat.reduceSub, Nat.zero_add, decide_true, decide_false, Bool.true_and, Bool.false_and, Bool.and_true, Bool.and_false, l3, all_map]
        refine (run_rt rfl m1).trans ?_
        simp only [arTb, ha, hc, Bool.true_and]
  | _ => simp [m_are_tubs, runM, seqS, frzS, frzs, frz1, retF, retS, ifS, skipS, andE, orE, notE, ifE, valF, vE, vV, kE, kV', callF, ar_nil, ar_cons, dn_fz, dn_ow, dn_bag, dn_scr, d_fz, d_ow, b_of, isiF, isD, blF, cmpF, chainF, orElse, lenS, bltF1, notT, andT, orT, tstF, l_list, l_tuple, l_all, l_listL, l_listT, l_tupL, l_tupT, l_abs, c_lt, c_le, c_gt, c_ge, c_eqI, c_neI, c_inS, c_niS, i_list, i_tuple, i_str, x_list, x_tuple, plainF, ixF, ixS, asgF, unpF, unF, setAll, List.length_cons, List.length_nil, List.map_cons, List.map_nil, if_true, if_false, List.cons_append, List.nil_append, List.append_nil, List.getElem?_cons_zero, List.getElem?_cons_succ, List.replicate, List.set_cons_zero, List.set_cons_succ, Option.bind_some, Option.map_some, Option.bind_none, Option.map_none, Bool.not_true, Bool.not_false, Bool.false_eq_true, Bool.or_false, Bool.or_true, Nat.reduceAdd, Nat.reduceSub, Nat.zero_add, decide_true, decide_false, Bool.true_and, Bool.false_and, Bool.and_true, Bool.and_false, ht, tupLen, arTb]
end K01

set_option maxHeartbeats 4000000
namespace K01
open PySem PySem.Spec PyProof.Rows L2 Iv
variable {k : Nat} {st : BSt}
/-! ### good data can be compared -/
mutual
theorem gd_lay : ∀ d : D, gd d = true → d.canLay0 = true
  | .none, _ => rfl
  | .bool _, _ => rfl
  | .int _, _ => rfl
  | .str z, h => (gd_str h).2
  | .list xs, h => by
    simp only [gd, Bool.and_eq_true] at h
    exact gdAll_lay xs h.2
  | .tuple xs, h => by
    simp only [gd, Bool.and_eq_true] at h
    exact gdAll_lay xs h.2
  | .dict _, h => by cases h
theorem gdAll_lay : ∀ ds : List D, gdAll ds = true → PyData.canLayAll0 ds = true
  | [], _ => rfl
  | d :: ds, h => by
    simp only [gdAll, Bool.and_eq_true] at h
    show (d.canLay0 && PyData.canLayAll0 ds) = true
    rw [gd_lay d h.1, gdAll_lay ds h.2]; rfl
end
theorem layAll_of : ∀ {ds : List D}, (∀ d ∈ ds, gd d = true) → PyData.canLayAll0 ds = true
  | [], _ => rfl
  | d :: ds, h => by
    show (d.canLay0 && PyData.canLayAll0 ds) = true
    rw [gd_lay d (h d List.mem_cons_self), layAll_of fun y hy => h y (List.mem_cons_of_mem _ hy)]; rfl
theorem depAll_of {n : Nat} : ∀ {ds : List D}, (∀ d ∈ ds, d.depth ≤ n) → PyData.depthAll ds ≤ n
  | [], _ => Nat.zero_le _
  | d :: ds, h => by
    show max d.depth (PyData.depthAll ds) ≤ n
    have h1 := h d List.mem_cons_self
    have h2 := depAll_of fun y hy => h y (List.mem_cons_of_mem _ hy)
    omega
theorem sh_list {ds : List D} (h : ∀ d ∈ ds, gd d = true) (hd : ∀ d ∈ ds, d.depth ≤ 60) : SeqAt.shaped (.list ds) = true := by
  show (PyData.canLayAll0 ds && decide (PyData.depthAll ds + 1 ≤ 64)) = true
  have h2 := depAll_of hd
  rw [layAll_of h, decide_eq_true (by omega)]; rfl
theorem eqv_nil (ds : List D) : PyData.eqv (.list ds) (.list []) = ds.isEmpty := by
  cases ds <;> rfl
theorem c_eqE {ds : List D} (h : ∀ d ∈ ds, gd d = true) (hd : ∀ d ∈ ds, d.depth ≤ 60) : cmpD .Eq (.list ds) (.list []) = some ds.isEmpty := by
  show (if SeqAt.shaped (.list ds) && SeqAt.shaped (.list []) then some (PyData.eqv (.list ds) (.list [])) else none) = _
  rw [sh_list h hd, eqv_nil]; rfl
theorem c_neE {ds : List D} (h : ∀ d ∈ ds, gd d = true) (hd : ∀ d ∈ ds, d.depth ≤ 60) : cmpD .NotEq (.list ds) (.list []) = some (!ds.isEmpty) := by
  show (if SeqAt.shaped (.list ds) && SeqAt.shaped (.list []) then some (!PyData.eqv (.list ds) (.list [])) else none) = _
  rw [sh_list h hd, eqv_nil]; rfl
theorem fil_empty (ds : List D) (p : D → Bool) : (ds.filter p).isEmpty = ds.all fun d => !p d := by
  induction ds with
  | nil => rfl
  | cons d ds ih =>
    cases hp : p d with
    | true => simp [hp]
    | false => simp [hp, ih]
theorem nil_lst (env : Env') (st : BSt) : lstF (argsF []) env st = some (.ow (.list []), st) := rfl
/-! ### the law's own readers -/
def noLet : D → Bool
  | .str x => !decide (x.cps.getD 0 0 ∈ letters.cps.toList)
  | _ => false
theorem sign_gd {z : Str} (h : PyData.strOk z = true) : ∀ d ∈ signsD z, gd d = true ∧ d.depth ≤ 60 := by
  intro d hd
  obtain ⟨c, hc, rfl⟩ := List.mem_map.mp hd
  have h1 : c < 0x110000 := by
    have := (Array.all_eq_true_iff_forall_mem.mp (show z.cps.all (· < 0x110000) = true from h)) c (by simpa using hc)
    simpa using this
  refine ⟨?_, Nat.zero_le _⟩
  show (decide ((⟨#[c]⟩ : Str).length ≤ 1000) && PyData.strOk ⟨#[c]⟩) = true
  have e : (⟨#[c]⟩ : Str).length = 1 := rfl
  rw [e]
  show (true && (#[c].all (· < 0x110000))) = true
  simp [h1]
theorem f_law_is_name (d : D) (h : gd d = true) : FF (k + 1) "_law_is_name" [.fz d] st = some (.fz (.bool (isNm d)), st) := by
  unfold FF
  rw [e__law_is_name]
  cases d with
  | str z =>
    have hz := gd_str h
    have sg := sign_gd hz.2
    by_cases h1 : 1 ≤ (z.length : Int)
    · by_cases h2 : (z.length : Int) ≤ 8
      · have l1 : lcF (plainF (vE 0)) [1] (setF 1) (cmpF .NotIn (vV 1) (valF (kE (.str "abcdefghijklmnopqrstuvwxyz")))) (vE 1) [some (.fz (.str z)), none] st = some (.ow (.list ((signsD z).filter noLet)), st) := by
          refine lcF_filter noLet rfl (fun d hd => ?_) (by rw [signs_len]; exact hz.1)
          obtain ⟨c, _, rfl⟩ := List.mem_map.mp hd
          exact ⟨_, rfl, rfl, _, rfl, rfl⟩
        have c1 := c_eqE (ds := (signsD z).filter noLet) (fun d hd => (sg d ((List.mem_filter.mp hd).1)).1) (fun d hd => (sg d ((List.mem_filter.mp hd).1)).2)
        have e2 : ((signsD z).filter noLet).isEmpty = z.cps.toList.all fun c => decide (c ∈ letters.cps.toList) := by
          rw [fil_empty]
          unfold signsD
          rw [List.all_map]
          congr 1
          funext c
          show (!(!decide (c ∈ letters.cps.toList))) = _
          rw [Bool.not_not]
        simp only [m__law_is_name, l_str hz.1, h1, h2, runM, seqS, frzS, frzs, frz1, retF, retS, ifS, skipS, andE, orE, notE, ifE, valF, vE, vV, kE, kV', callF, ar_nil, ar_cons, dn_fz, dn_ow, dn_bag, dn_scr, d_fz, d_ow, b_of, isiF, isD, blF, cmpF, chainF, orElse, lenS, bltF1, notT, andT, orT, tstF, l_list, l_tuple, l_all, l_listL, l_listT, l_tupL, l_tupT, l_abs, c_lt, c_le, c_gt, c_ge, c_eqI, c_neI, c_inS, c_niS, i_list, i_tuple, i_str, x_list, x_tuple, plainF, ixF, ixS, asgF, unpF, unF, setAll, List.length_cons, List.length_nil, List.map_cons, List.map_nil, if_true, if_false, List.cons_append, List.nil_append, List.append_nil, List.getElem?_cons_zero, List.getElem?_cons_succ, List.replicate, List.set_cons_zero, List.set_cons_succ, Option.bind_some, Option.map_some, Option.bind_none, Option.map_none, Bool.not_true, Bool.not_false, Bool.false_eq_true, Bool.or_false, Bool.or_true, Nat.reduceAdd, Nat.reduceSub, Nat.zero_add, decide_true, decide_false, Bool.true_and, Bool.false_and, Bool.and_true, Bool.and_false, l1, nil_lst, c1, isNm]
        rw [e2]
      · simp only [m__law_is_name, l_str hz.1, h1, h2, runM, seqS, frzS, frzs, frz1, retF, retS, ifS, skipS, andE, orE, notE, ifE, valF, vE, vV, kE, kV', callF, ar_nil, ar_cons, dn_fz, dn_ow, dn_bag, dn_scr, d_fz, d_ow, b_of, isiF, isD, blF, cmpF, chainF, orElse, lenS, bltF1, notT, andT, orT, tstF, l_list, l_tuple, l_all, l_listL, l_listT, l_tupL, l_tupT, l_abs, c_lt, c_le, c_gt, c_ge, c_eqI, c_neI, c_inS, c_niS, i_list, i_tuple, i_str, x_list, x_tuple, plainF, ixF, ixS, asgF, unpF, unF, setAll, List.length_cons, List.length_nil, List.map_cons, List.map_nil, if_true, if_false, List.cons_append, List.nil_append, List.append_nil, List.getElem?_cons_zero, List.getElem?_cons_succ, List.replicate, List.set_cons_zero, List.set_cons_succ, Option.bind_some, Option.map_some, Option.bind_none, Option.map_none, Bool.not_true, Bool.not_false, Bool.false_eq_true, Bool.or_false, Bool.or_true, Nat.reduceAdd, Nat.reduceSub, Nat.zero_add, decide_true, decide_false, Bool.true_and, Bool.false_and, Bool.and_true, Bool.and_false, isNm]
    · simp only [m__law_is_name, l_str hz.1, h1, runM, seqS, frzS, frzs, frz1, retF, retS, ifS, skipS, andE, orE, notE, ifE, valF, vE, vV, kE, kV', callF, ar_nil, ar_cons, dn_fz, dn_ow, dn_bag, dn_scr, d_fz, d_ow, b_of, isiF, isD, blF, cmpF, chainF, orElse, lenS, bltF1, notT, andT, orT, tstF, l_list, l_tuple, l_all, l_listL, l_listT, l_tupL, l_tupT, l_abs, c_lt, c_le, c_gt, c_ge, c_eqI, c_neI, c_inS, c_niS, i_list, i_tuple, i_str, x_list, x_tuple, plainF, ixF, ixS, asgF, unpF, unF, setAll, List.length_cons, List.length_nil, List.map_cons, List.map_nil, if_true, if_false, List.cons_append, List.nil_append, List.append_nil, List.getElem?_cons_zero, List.getElem?_cons_succ, List.replicate, List.set_cons_zero, List.set_cons_succ, Option.bind_some, Option.map_some, Option.bind_none, Option.map_none, Bool.not_true, Bool.not_false, Bool.false_eq_true, Bool.or_false, Bool.or_true, Nat.reduceAdd, Nat.reduceSub, Nat.zero_add, decide_true, decide_false, Bool.true_and, Bool.false_and, Bool.and_true, Bool.and_false, isNm]
  | _ => rfl
theorem f_law_is_rain (ts : List D) (d : D) (h : gd d = true) (hd : d.depth ≤ 60) : FF (k + 2) "_law_is_rain" [.fz (.tuple ts), .fz d] st = some (.fz (.bool (isRn ts.length d)), st) := by
  unfold FF
  rw [e__law_is_rain]
  have hw := fun d a b => f_law_within (k := k) (st := st) d a b
  unfold FF at hw
  cases d with
  | tuple ds =>
    obtain ⟨hl, hg⟩ := gd_tup h
    have l1 : lcF (plainF (vE 1)) [2] (setF 2) (notT (tstF (valF (callF (tbl.F whR 60 (k + 1)) "_law_within" (argsF [(vE 2), (kE (.int 0)), (kE (.int 1000))]))))) (vE 2) [some (.fz (.tuple ts)), some (.fz (.tuple ds)), none] st = some (.ow (.list (ds.filter fun d => !within d 0 1000)), st) :=
      lcF_filter _ rfl (fun d hd => ⟨_, rfl, by simp [wipeE, runM, seqS, frzS, frzs, frz1, retF, retS, ifS, skipS, andE, orE, notE, ifE, valF, vE, vV, kE, kV', callF, ar_nil, ar_cons, dn_fz, dn_ow, dn_bag, dn_scr, d_fz, d_ow, b_of, isiF, isD, blF, cmpF, chainF, orElse, lenS, bltF1, notT, andT, orT, tstF, l_list, l_tuple, l_all, l_listL, l_listT, l_tupL, l_tupT, l_abs, c_lt, c_le, c_gt, c_ge, c_eqI, c_neI, c_inS, c_niS, i_list, i_tuple, i_str, x_list, x_tuple, plainF, ixF, ixS, asgF, unpF, unF, setAll, List.length_cons, List.length_nil, List.map_cons, List.map_nil, if_true, if_false, List.cons_append, List.nil_append, List.append_nil, List.getElem?_cons_zero, List.getElem?_cons_succ, List.replicate, List.set_cons_zero, List.set_cons_succ, Option.bind_some, Option.map_some, Option.bind_none, Option.map_none, Bool.not_true, Bool.not_false, Bool.false_eq_true, Bool.or_false, Bool.or_true, Nat.reduceAdd, Nat.reduceSub, Nat.zero_add, decide_true, decide_false, Bool.true_and, Bool.false_and, Bool.and_true, Bool.and_false, hw], .fz d, rfl, rfl⟩) hl
    have dp : ∀ d ∈ ds, d.depth ≤ 60 := fun d hd' => by
      have h1 : PyData.depthAll ds + 1 ≤ 60 := hd
      have : ∀ (l : List D), d ∈ l → d.depth ≤ PyData.depthAll l := fun l => by
        induction l with
        | nil => intro z; cases z
        | cons x l ih =>
          intro z
          show d.depth ≤ max x.depth (PyData.depthAll l)
          rcases List.mem_cons.mp z with rfl | z
          · omega
          · have := ih z; omega
      have := this ds hd'
      omega
    have c1 := c_eqE (ds := ds.filter fun d => !within d 0 1000) (fun d hd => hg d ((List.mem_filter.mp hd).1)) (fun d hd => dp d ((List.mem_filter.mp hd).1))
    have e2 : (ds.filter fun d => !within d 0 1000).isEmpty = ds.all fun d => within d 0 1000 := by
      rw [fil_empty]; simp
    by_cases h3 : ds.length = ts.length
    · have e3 : ((ds.length : Int) == (ts.length : Int)) = true := by simp [h3]
      simp only [m__law_is_rain, runM, seqS, frzS, frzs, frz1, retF, retS, ifS, skipS, andE, orE, notE, ifE, valF, vE, vV, kE, kV', callF, ar_nil, ar_cons, dn_fz, dn_ow, dn_bag, dn_scr, d_fz, d_ow, b_of, isiF, isD, blF, cmpF, chainF, orElse, lenS, bltF1, notT, andT, orT, tstF, l_list, l_tuple, l_all, l_listL, l_listT, l_tupL, l_tupT, l_abs, c_lt, c_le, c_gt, c_ge, c_eqI, c_neI, c_inS, c_niS, i_list, i_tuple, i_str, x_list, x_tuple, plainF, ixF, ixS, asgF, unpF, unF, setAll, List.length_cons, List.length_nil, List.map_cons, List.map_nil, if_true, if_false, List.cons_append, List.nil_append, List.append_nil, List.getElem?_cons_zero, List.getElem?_cons_succ, List.replicate, List.set_cons_zero, List.set_cons_succ, Option.bind_some, Option.map_some, Option.bind_none, Option.map_none, Bool.not_true, Bool.not_false, Bool.false_eq_true, Bool.or_false, Bool.or_true, Nat.reduceAdd, Nat.reduceSub, Nat.zero_add, decide_true, decide_false, Bool.true_and, Bool.false_and, Bool.and_true, Bool.and_false, e3, l1, nil_lst, c1]
      rw [e2]
      simp [isRn, h3]
    · have e3 : ((ds.length : Int) == (ts.length : Int)) = false := by simp; omega
      simp only [m__law_is_rain, runM, seqS, frzS, frzs, frz1, retF, retS, ifS, skipS, andE, orE, notE, ifE, valF, vE, vV, kE, kV', callF, ar_nil, ar_cons, dn_fz, dn_ow, dn_bag, dn_scr, d_fz, d_ow, b_of, isiF, isD, blF, cmpF, chainF, orElse, lenS, bltF1, notT, andT, orT, tstF, l_list, l_tuple, l_all, l_listL, l_listT, l_tupL, l_tupT, l_abs, c_lt, c_le, c_gt, c_ge, c_eqI, c_neI, c_inS, c_niS, i_list, i_tuple, i_str, x_list, x_tuple, plainF, ixF, ixS, asgF, unpF, unF, setAll, List.length_cons, List.length_nil, List.map_cons, List.map_nil, if_true, if_false, List.cons_append, List.nil_append, List.append_nil, List.getElem?_cons_zero, List.getElem?_cons_succ, List.replicate, List.set_cons_zero, List.set_cons_succ, Option.bind_some, Option.map_some, Option.bind_none, Option.map_none, Bool.not_true, Bool.not_false, Bool.false_eq_true, Bool.or_false, Bool.or_true, Nat.reduceAdd, Nat.reduceSub, Nat.zero_add, decide_true, decide_false, Bool.true_and, Bool.false_and, Bool.and_true, Bool.and_false, e3]
      simp [isRn, h3]
  | _ => rfl
/-! ### lowest terms -/
theorem gcd_loop4 (x y : Option R) (c : TF) (f : SF) (hc : ∀ (a b : Nat), c [x, y, some (.fz (.int a)), some (.fz (.int b))] st = some (decide ((0 : Int) < (b : Int)), st))
    (hf : ∀ (a b : Nat), 0 < b → f [x, y, some (.fz (.int a)), some (.fz (.int b))] st = some (.nx, [x, y, some (.fz (.int b)), some (.fz (.int ((a % b : Nat) : Int)))], st)) :
    ∀ (b a : Nat), ∃ n, whileN c f n [x, y, some (.fz (.int a)), some (.fz (.int b))] st = some (.nx, [x, y, some (.fz (.int ((Nat.gcd a b : Nat) : Int))), some (.fz (.int 0))], st) := by
  intro b
  induction b using Nat.strongRecOn with
  | _ b ih =>
    intro a
    by_cases h : b = 0
    · subst h
      refine ⟨1, ?_⟩
      unfold whileN
      rw [hc]
      simp
    · have hb : 0 < b := by omega
      obtain ⟨n, hn⟩ := ih (a % b) (Nat.mod_lt _ hb) b
      refine ⟨n + 1, ?_⟩
      unfold whileN
      rw [hc]
      have e : decide ((0 : Int) < (b : Int)) = true := decide_eq_true (by omega)
      simp only [Option.bind_some, e, if_true, hf a b hb]
      rw [hn, Nat.gcd_comm a b, Nat.gcd_rec b a, Nat.gcd_comm (a % b) b]
theorem div_nat (a g : Nat) (h : 0 < g) (hs : g < 2 ^ 1000) : binD .FloorDiv (.int a) (.int g) = some (.fz (.int ((a / g : Nat) : Int))) := by
  have d : divOk (g : Int) = true := by
    unfold divOk
    rw [Bool.and_eq_true]
    refine ⟨decide_eq_true (by omega), decide_eq_true ?_⟩
    have : (g : Int).natAbs = g := rfl
    rw [this]
    have h1 : g.log2 < 1000 := (Nat.log2_lt (by omega)).mpr hs
    omega
  show (if divOk (g : Int) then _ else none) = _
  rw [d]
  rfl
theorem f_law_lowest (t b : Nat) (hb : 0 < b) (hs : b < 2 ^ 1000) : FF (k + 1) "_law_lowest" [.fz (.int t), .fz (.int b)] st = some (.fz (.tuple [.int ((t / Nat.gcd t b : Nat) : Int), .int ((b / Nat.gcd t b : Nat) : Int)]), st) := by
  unfold FF
  rw [e__law_lowest]
  have g0 : 0 < Nat.gcd t b := Nat.gcd_pos_of_pos_right t hb
  have g1 : Nat.gcd t b < 2 ^ 1000 := Nat.lt_of_le_of_lt (Nat.gcd_le_right t hb) hs
  have key : ∃ n, whileN (cmpF .Gt (vV 3) (valF (kE (.int 0)))) (seqS (frzS [3] (par2F 2 3 (vE 3) (binF .Mod (vV 2) (vV 3)))) skipS) n [some (.fz (.int t)), some (.fz (.int b)), some (.fz (.int t)), some (.fz (.int b))] st = some (.nx, [some (.fz (.int t)), some (.fz (.int b)), some (.fz (.int ((Nat.gcd t b : Nat) : Int))), some (.fz (.int 0))], st) := by
    refine gcd_loop4 _ _ _ _ (fun a b => ?_) (fun a b h => ?_) b t
    · simp only [runM, seqS, frzS, frzs, frz1, retF, retS, ifS, skipS, andE, orE, notE, ifE, valF, vE, vV, kE, kV', callF, ar_nil, ar_cons, dn_fz, dn_ow, dn_bag, dn_scr, d_fz, d_ow, b_of, isiF, isD, blF, cmpF, chainF, orElse, lenS, bltF1, notT, andT, orT, tstF, l_list, l_tuple, l_all, l_listL, l_listT, l_tupL, l_tupT, l_abs, c_lt, c_le, c_gt, c_ge, c_eqI, c_neI, c_inS, c_niS, i_list, i_tuple, i_str, x_list, x_tuple, plainF, ixF, ixS, asgF, unpF, unF, setAll, List.length_cons, List.length_nil, List.map_cons, List.map_nil, if_true, if_false, List.cons_append, List.nil_append, List.append_nil, List.getElem?_cons_zero, List.getElem?_cons_succ, List.replicate, List.set_cons_zero, List.set_cons_succ, Option.bind_some, Option.map_some, Option.bind_none, Option.map_none, Bool.not_true, Bool.not_false, Bool.false_eq_true, Bool.or_false, Bool.or_true, Nat.reduceAdd, Nat.reduceSub, Nat.zero_add, decide_true, decide_false, Bool.true_and, Bool.false_and, Bool.and_true, Bool.and_false]
    · simp only [runM, seqS, frzS, frzs, frz1, retF, retS, ifS, skipS, andE, orE, notE, ifE, valF, vE, vV, kE, kV', callF, ar_nil, ar_cons, dn_fz, dn_ow, dn_bag, dn_scr, d_fz, d_ow, b_of, isiF, isD, blF, cmpF, chainF, orElse, lenS, bltF1, notT, andT, orT, tstF, l_list, l_tuple, l_all, l_listL, l_listT, l_tupL, l_tupT, l_abs, c_lt, c_le, c_gt, c_ge, c_eqI, c_neI, c_inS, c_niS, i_list, i_tuple, i_str, x_list, x_tuple, plainF, ixF, ixS, asgF, unpF, unF, setAll, List.length_cons, List.length_nil, List.map_cons, List.map_nil, if_true, if_false, List.cons_append, List.nil_append, List.append_nil, List.getElem?_cons_zero, List.getElem?_cons_succ, List.replicate, List.set_cons_zero, List.set_cons_succ, Option.bind_some, Option.map_some, Option.bind_none, Option.map_none, Bool.not_true, Bool.not_false, Bool.false_eq_true, Bool.or_false, Bool.or_true, Nat.reduceAdd, Nat.reduceSub, Nat.zero_add, decide_true, decide_false, Bool.true_and, Bool.false_and, Bool.and_true, Bool.and_false, par2F, binF, mod_int a b h]
  obtain ⟨n, hn⟩ := key
  have ab : (if (t : Int) < 0 then -(t : Int) else (t : Int)) = (t : Int) := if_neg (by omega)
  refine run_rt (env1 := [some (.fz (.int t)), some (.fz (.int b)), some (.fz (.int ((Nat.gcd t b : Nat) : Int))), some (.fz (.int 0))]) rfl ?_
  unfold m__law_lowest
  rw [seq_nx (env1 := [some (.fz (.int t)), some (.fz (.int b)), some (.fz (.int t)), some (.fz (.int b))]) (st1 := st) (by simp only [runM, seqS, frzS, frzs, frz1, retF, retS, ifS, skipS, andE, orE, notE, ifE, valF, vE, vV, kE, kV', callF, ar_nil, ar_cons, dn_fz, dn_ow, dn_bag, dn_scr, d_fz, d_ow, b_of, isiF, isD, blF, cmpF, chainF, orElse, lenS, bltF1, notT, andT, orT, tstF, l_list, l_tuple, l_all, l_listL, l_listT, l_tupL, l_tupT, l_abs, c_lt, c_le, c_gt, c_ge, c_eqI, c_neI, c_inS, c_niS, i_list, i_tuple, i_str, x_list, x_tuple, plainF, ixF, ixS, asgF, unpF, unF, setAll, List.length_cons, List.length_nil, List.map_cons, List.map_nil, if_true, if_false, List.cons_append, List.nil_append, List.append_nil, List.getElem?_cons_zero, List.getElem?_cons_succ, List.replicate, List.set_cons_zero, List.set_cons_succ, Option.bind_some, Option.map_some, Option.bind_none, Option.map_none, Bool.not_true, Bool.not_false, Bool.false_eq_true, Bool.or_false, Bool.or_true, Nat.reduceAdd, Nat.reduceSub, Nat.zero_add, decide_true, decide_false, Bool.true_and, Bool.false_and, Bool.and_true, Bool.and_false, par2F, ab])]
  rw [seq_nx (f := frzS [] (whR _ _)) (whR_eq hn)]
  refine seq_rt ?_
  have d1 := div_nat t _ g0 g1
  have d2 := div_nat b _ g0 g1
  simp only [runM, seqS, frzS, frzs, frz1, retF, retS, ifS, skipS, andE, orE, notE, ifE, valF, vE, vV, kE, kV', callF, ar_nil, ar_cons, dn_fz, dn_ow, dn_bag, dn_scr, d_fz, d_ow, b_of, isiF, isD, blF, cmpF, chainF, orElse, lenS, bltF1, notT, andT, orT, tstF, l_list, l_tuple, l_all, l_listL, l_listT, l_tupL, l_tupT, l_abs, c_lt, c_le, c_gt, c_ge, c_eqI, c_neI, c_inS, c_niS, i_list, i_tuple, i_str, x_list, x_tuple, plainF, ixF, ixS, asgF, unpF, unF, setAll, List.length_cons, List.length_nil, List.map_cons, List.map_nil, if_true, if_false, List.cons_append, List.nil_append, List.append_nil, List.getElem?_cons_zero, List.getElem?_cons_succ, List.replicate, List.set_cons_zero, List.set_cons_succ, Option.bind_some, Option.map_some, Option.bind_none, Option.map_none, Bool.not_true, Bool.not_false, Bool.false_eq_true, Bool.or_false, Bool.or_true, Nat.reduceAdd, Nat.reduceSub, Nat.zero_add, decide_true, decide_false, Bool.true_and, Bool.false_and, Bool.and_true, Bool.and_false, tupF, binF, d1, d2, dsOf, lenOk]
  rfl
end K01

set_option maxHeartbeats 4000000
namespace K01
open PySem PySem.Spec PyProof.Rows L2 Iv
variable {k : Nat} {st : BSt}
/-! ### a search over a list, in a third slot -/
theorem forL_all {A B : Option R} {f : SF} {p : D → Bool} : ∀ (ds : List D) (z : Option R), (∀ d ∈ ds, f [A, B, some (.fz d)] st = if p d then some (.nx, [A, B, some (.fz d)], st) else some (.rt (.fz (.bool false)), [A, B, some (.fz d)], st)) →
    ∃ z', forL (setF 2) f ds [A, B, z] st = if ds.all p then some (.nx, [A, B, z'], st) else some (.rt (.fz (.bool false)), [A, B, z'], st)
  | [], z, _ => ⟨z, rfl⟩
  | d :: ds, z, h => by
    have h1 := h d List.mem_cons_self
    obtain ⟨z', ih⟩ := forL_all ds (some (.fz d)) fun y hy => h y (List.mem_cons_of_mem _ hy)
    cases hp : p d with
    | true =>
      refine ⟨z', ?_⟩
      rw [hp] at h1
      simp only [forL, setF, Option.bind_some, List.set_cons_succ, List.set_cons_zero, h1, if_true, ih, List.all_cons, hp, Bool.true_and]
    | false =>
      refine ⟨some (.fz d), ?_⟩
      rw [hp] at h1
      simp only [forL, setF, Option.bind_some, List.set_cons_succ, List.set_cons_zero, h1, Bool.false_eq_true, if_false, List.all_cons, hp, Bool.false_and]
theorem c_neT (x y t b : Int) : cmpD .NotEq (.tuple [.int x, .int y]) (.tuple [.int t, .int b]) = some (!((x == t) && ((y == b) && true))) := rfl
theorem low_iff {t b : Nat} (hb : 0 < b) : ((((t / Nat.gcd t b : Nat) : Int) == (t : Int)) && ((((b / Nat.gcd t b : Nat) : Int) == (b : Int)) && true)) = decide (Nat.gcd t b = 1) := by
  rw [Bool.eq_iff_iff]
  simp only [Bool.and_true, Bool.and_eq_true, beq_iff_eq, decide_eq_true_eq]
  constructor
  · rintro ⟨_, h⟩
    have h' : b / Nat.gcd t b = b := by exact_mod_cast h
    have g0 : 0 < Nat.gcd t b := Nat.gcd_pos_of_pos_right t hb
    have hd := Nat.div_mul_cancel (Nat.gcd_dvd_right t b)
    rw [h'] at hd
    have : b * Nat.gcd t b = b * 1 := by omega
    exact Nat.eq_of_mul_eq_mul_left hb this
  · intro h
    rw [h]
    simp
noncomputable def bodyB (k : Nat) (env : Env') (st : BSt) : Option (Out × Env' × BSt) := (seqS (frzS [] (ifS (orT (notT (tstF (valF (isiF .tuple (vV 2))))) (orT (cmpF .NotEq (valF (orElse (lenS 2) (bltF1 .len (vV 2)))) (valF (kE (.int 2)))) (orT (notT (tstF (valF (callF (tbl.F whR 60 (k + 1)) "_law_whole" (argsF [(orElse (ixS 2 (valF (kE (.int 0)))) (ixF (vV 2) (valF (kE (.int 0)))))]))))) (notT (tstF (valF (callF (tbl.F whR 60 (k + 1)) "_law_whole" (argsF [(orElse (ixS 2 (valF (kE (.int 1)))) (ixF (vV 2) (valF (kE (.int 1)))))])))))))) (seqS (frzS [] (retF (kE (.bool false)))) skipS) skipS)) (seqS (frzS [] (ifS (orT (cmpF .Lt (valF (orElse (ixS 2 (valF (kE (.int 0)))) (ixF (vV 2) (valF (kE (.int 0)))))) (valF (kE (.int 0)))) (orT (cmpF .Lt (valF (orElse (ixS 2 (valF (kE (.int 1)))) (ixF (vV 2) (valF (kE (.int 1)))))) (valF (kE (.int 1)))) (cmpF .NotEq (valF (callF (tbl.F whR 60 (k + 1)) "_law_lowest" (argsF [(orElse (ixS 2 (valF (kE (.int 0)))) (ixF (vV 2) (valF (kE (.int 0))))), (orElse (ixS 2 (valF (kE (.int 1)))) (ixF (vV 2) (valF (kE (.int 1)))))]))) (vV 2)))) (seqS (frzS [] (retF (kE (.bool false)))) skipS) skipS)) skipS)) env st
theorem body_ok (A B : Option R) (d : D) (h : gd d = true) : bodyB k [A, B, some (.fz d)] st = if isFr d then some (.nx, [A, B, some (.fz d)], st) else some (.rt (.fz (.bool false)), [A, B, some (.fz d)], st) := by
  have hw := fun d => f_law_whole (k := k) (st := st) d
  unfold FF at hw
  cases d with
  | tuple ds =>
    match ds with
    | [] => simp [bodyB, runM, seqS, frzS, frzs, frz1, retF, retS, ifS, skipS, andE, orE, notE, ifE, valF, vE, vV, kE, kV', callF, ar_nil, ar_cons, dn_fz, dn_ow, dn_bag, dn_scr, d_fz, d_ow, b_of, isiF, isD, blF, cmpF, chainF, orElse, lenS, bltF1, notT, andT, orT, tstF, l_list, l_tuple, l_all, l_listL, l_listT, l_tupL, l_tupT, l_abs, c_lt, c_le, c_gt, c_ge, c_eqI, c_neI, c_inS, c_niS, i_list, i_tuple, i_str, x_list, x_tuple, plainF, ixF, ixS, asgF, unpF, unF, setAll, List.length_cons, List.length_nil, List.map_cons, List.map_nil, if_true, if_false, List.cons_append, List.nil_append, List.append_nil, List.getElem?_cons_zero, List.getElem?_cons_succ, List.replicate, List.set_cons_zero, List.set_cons_succ, Option.bind_some, Option.map_some, Option.bind_none, Option.map_none, Bool.not_true, Bool.not_false, Bool.false_eq_true, Bool.or_false, Bool.or_true, Nat.reduceAdd, Nat.reduceSub, Nat.zero_add, decide_true, decide_false, Bool.true_and, Bool.false_and, Bool.and_true, Bool.and_false, isFr]
    | [a] => simp [bodyB, runM, seqS, frzS, frzs, frz1, retF, retS, ifS, skipS, andE, orE, notE, ifE, valF, vE, vV, kE, kV', callF, ar_nil, ar_cons, dn_fz, dn_ow, dn_bag, dn_scr, d_fz, d_ow, b_of, isiF, isD, blF, cmpF, chainF, orElse, lenS, bltF1, notT, andT, orT, tstF, l_list, l_tuple, l_all, l_listL, l_listT, l_tupL, l_tupT, l_abs, c_lt, c_le, c_gt, c_ge, c_eqI, c_neI, c_inS, c_niS, i_list, i_tuple, i_str, x_list, x_tuple, plainF, ixF, ixS, asgF, unpF, unF, setAll, List.length_cons, List.length_nil, List.map_cons, List.map_nil, if_true, if_false, List.cons_append, List.nil_append, List.append_nil, List.getElem?_cons_zero, List.getElem?_cons_succ, List.replicate, List.set_cons_zero, List.set_cons_succ, Option.bind_some, Option.map_some, Option.bind_none, Option.map_none, Bool.not_true, Bool.not_false, Bool.false_eq_true, Bool.or_false, Bool.or_true, Nat.reduceAdd, Nat.reduceSub, Nat.zero_add, decide_true, decide_false, Bool.true_and, Bool.false_and, Bool.and_true, Bool.and_false, isFr]
    | a :: b :: c :: r =>
      have e : ¬ ((r.length : Int) + 1 + 1 + 1 = 2) := by omega
      simp [bodyB, runM, seqS, frzS, frzs, frz1, retF, retS, ifS, skipS, andE, orE, notE, ifE, valF, vE, vV, kE, kV', callF, ar_nil, ar_cons, dn_fz, dn_ow, dn_bag, dn_scr, d_fz, d_ow, b_of, isiF, isD, blF, cmpF, chainF, orElse, lenS, bltF1, notT, andT, orT, tstF, l_list, l_tuple, l_all, l_listL, l_listT, l_tupL, l_tupT, l_abs, c_lt, c_le, c_gt, c_ge, c_eqI, c_neI, c_inS, c_niS, i_list, i_tuple, i_str, x_list, x_tuple, plainF, ixF, ixS, asgF, unpF, unF, setAll, List.length_cons, List.length_nil, List.map_cons, List.map_nil, if_true, if_false, List.cons_append, List.nil_append, List.append_nil, List.getElem?_cons_zero, List.getElem?_cons_succ, List.replicate, List.set_cons_zero, List.set_cons_succ, Option.bind_some, Option.map_some, Option.bind_none, Option.map_none, Bool.not_true, Bool.not_false, Bool.false_eq_true, Bool.or_false, Bool.or_true, Nat.reduceAdd, Nat.reduceSub, Nat.zero_add, decide_true, decide_false, Bool.true_and, Bool.false_and, Bool.and_true, Bool.and_false, e, isFr]
    | [a, b] =>
      have x0 : atI [a, b] 0 = some a := rfl
      have x1 : atI [a, b] 1 = some b := rfl
      cases a with
      | int t =>
        cases b with
        | int b =>
          by_cases h1 : 0 ≤ t
          · by_cases h2 : 1 ≤ b
            · have gb := (gd_tup h).2 (.int b) (by simp)
              have gs : b.toNat < 2 ^ 1000 := by
                have : b.natAbs < 2 ^ 1000 := of_decide_eq_true gb
                have e : b.toNat = b.natAbs := by omega
                rw [e]; exact this
              have lo := f_law_lowest (k := k) (st := st) t.toNat b.toNat (by omega) gs
              unfold FF at lo
              have li := low_iff (t := t.toNat) (b := b.toNat) (by omega)
              rw [nat_of h1, nat_of (show 0 ≤ b by omega)] at lo li
              have n1 : decide (t < 0) = false := decide_eq_false (by omega)
              have n2 : decide (b < 1) = false := decide_eq_false (by omega)
              have e2 : ((([PyData.int t, PyData.int b].length : Nat) : Int) == 2) = true := rfl
              have e3 : (((2 : Nat) : Int) == 2) = true := rfl
              have r1 : isFr (.tuple [.int t, .int b]) = decide (Nat.gcd t.toNat b.toNat = 1) := by
                simp only [isFr, h1, h2, decide_true, Bool.true_and]
              rw [r1]
              cases hq : decide (Nat.gcd t.toNat b.toNat = 1) with
              | true =>
                rw [hq] at li
                simp only [Bool.and_true] at li
                simp only [bodyB, runM, seqS, frzS, frzs, frz1, retF, retS, ifS, skipS, andE, orE, notE, ifE, valF, vE, vV, kE, kV', callF, ar_nil, ar_cons, dn_fz, dn_ow, dn_bag, dn_scr, d_fz, d_ow, b_of, isiF, isD, blF, cmpF, chainF, orElse, lenS, bltF1, notT, andT, orT, tstF, l_list, l_tuple, l_all, l_listL, l_listT, l_tupL, l_tupT, l_abs, c_lt, c_le, c_gt, c_ge, c_eqI, c_neI, c_inS, c_niS, i_list, i_tuple, i_str, x_list, x_tuple, plainF, ixF, ixS, asgF, unpF, unF, setAll, List.length_cons, List.length_nil, List.map_cons, List.map_nil, if_true, if_false, List.cons_append, List.nil_append, List.append_nil, List.getElem?_cons_zero, List.getElem?_cons_succ, List.replicate, List.set_cons_zero, List.set_cons_succ, Option.bind_some, Option.map_some, Option.bind_none, Option.map_none, Bool.not_true, Bool.not_false, Bool.false_eq_true, Bool.or_false, Bool.or_true, Nat.reduceAdd, Nat.reduceSub, Nat.zero_add, decide_true, decide_false, Bool.true_and, Bool.false_and, Bool.and_true, Bool.and_false, hw, isW, x0, x1, n1, n2, lo, c_neT, li, e3]
              | false =>
                rw [hq] at li
                simp only [Bool.and_true] at li
                simp only [bodyB, runM, seqS, frzS, frzs, frz1, retF, retS, ifS, skipS, andE, orE, notE, ifE, valF, vE, vV, kE, kV', callF, ar_nil, ar_cons, dn_fz, dn_ow, dn_bag, dn_scr, d_fz, d_ow, b_of, isiF, isD, blF, cmpF, chainF, orElse, lenS, bltF1, notT, andT, orT, tstF, l_list, l_tuple, l_all, l_listL, l_listT, l_tupL, l_tupT, l_abs, c_lt, c_le, c_gt, c_ge, c_eqI, c_neI, c_inS, c_niS, i_list, i_tuple, i_str, x_list, x_tuple, plainF, ixF, ixS, asgF, unpF, unF, setAll, List.length_cons, List.length_nil, List.map_cons, List.map_nil, if_true, if_false, List.cons_append, List.nil_append, List.append_nil, List.getElem?_cons_zero, List.getElem?_cons_succ, List.replicate, List.set_cons_zero, List.set_cons_succ, Option.bind_some, Option.map_some, Option.bind_none, Option.map_none, Bool.not_true, Bool.not_false, Bool.false_eq_true, Bool.or_false, Bool.or_true, Nat.reduceAdd, Nat.reduceSub, Nat.zero_add, decide_true, decide_false, Bool.true_and, Bool.false_and, Bool.and_true, Bool.and_false, hw, isW, x0, x1, n1, n2, lo, c_neT, li, e3]
            · have n2 : b < 1 := by omega
              have n1 : ¬ (t < 0) := by omega
              simp [bodyB, runM, seqS, frzS, frzs, frz1, retF, retS, ifS, skipS, andE, orE, notE, ifE, valF, vE, vV, kE, kV', callF, ar_nil, ar_cons, dn_fz, dn_ow, dn_bag, dn_scr, d_fz, d_ow, b_of, isiF, isD, blF, cmpF, chainF, orElse, lenS, bltF1, notT, andT, orT, tstF, l_list, l_tuple, l_all, l_listL, l_listT, l_tupL, l_tupT, l_abs, c_lt, c_le, c_gt, c_ge, c_eqI, c_neI, c_inS, c_niS, i_list, i_tuple, i_str, x_list, x_tuple, plainF, ixF, ixS, asgF, unpF, unF, setAll, List.length_cons, List.length_nil, List.map_cons, List.map_nil, if_true, if_false, List.cons_append, List.nil_append, List.append_nil, List.getElem?_cons_zero, List.getElem?_cons_succ, List.replicate, List.set_cons_zero, List.set_cons_succ, Option.bind_some, Option.map_some, Option.bind_none, Option.map_none, Bool.not_true, Bool.not_false, Bool.false_eq_true, Bool.or_false, Bool.or_true, Nat.reduceAdd, Nat.reduceSub, Nat.zero_add, decide_true, decide_false, Bool.true_and, Bool.false_and, Bool.and_true, Bool.and_false, hw, isW, x0, x1, n1, n2, isFr, h1, h2]
          · have n1 : t < 0 := by omega
            simp [bodyB, runM, seqS, frzS, frzs, frz1, retF, retS, ifS, skipS, andE, orE, notE, ifE, valF, vE, vV, kE, kV', callF, ar_nil, ar_cons, dn_fz, dn_ow, dn_bag, dn_scr, d_fz, d_ow, b_of, isiF, isD, blF, cmpF, chainF, orElse, lenS, bltF1, notT, andT, orT, tstF, l_list, l_tuple, l_all, l_listL, l_listT, l_tupL, l_tupT, l_abs, c_lt, c_le, c_gt, c_ge, c_eqI, c_neI, c_inS, c_niS, i_list, i_tuple, i_str, x_list, x_tuple, plainF, ixF, ixS, asgF, unpF, unF, setAll, List.length_cons, List.length_nil, List.map_cons, List.map_nil, if_true, if_false, List.cons_append, List.nil_append, List.append_nil, List.getElem?_cons_zero, List.getElem?_cons_succ, List.replicate, List.set_cons_zero, List.set_cons_succ, Option.bind_some, Option.map_some, Option.bind_none, Option.map_none, Bool.not_true, Bool.not_false, Bool.false_eq_true, Bool.or_false, Bool.or_true, Nat.reduceAdd, Nat.reduceSub, Nat.zero_add, decide_true, decide_false, Bool.true_and, Bool.false_and, Bool.and_true, Bool.and_false, hw, isW, x0, x1, n1, isFr, h1]
        | _ => simp [bodyB, runM, seqS, frzS, frzs, frz1, retF, retS, ifS, skipS, andE, orE, notE, ifE, valF, vE, vV, kE, kV', callF, ar_nil, ar_cons, dn_fz, dn_ow, dn_bag, dn_scr, d_fz, d_ow, b_of, isiF, isD, blF, cmpF, chainF, orElse, lenS, bltF1, notT, andT, orT, tstF, l_list, l_tuple, l_all, l_listL, l_listT, l_tupL, l_tupT, l_abs, c_lt, c_le, c_gt, c_ge, c_eqI, c_neI, c_inS, c_niS, i_list, i_tuple, i_str, x_list, x_tuple, plainF, ixF, ixS, asgF, unpF, unF, setAll, List.length_cons, List.length_nil, List.map_cons, List.map_nil, if_true, if_false, List.cons_append, List.nil_append, List.append_nil, List.getElem?_cons_zero, List.getElem?_cons_succ, List.replicate, List.set_cons_zero, List.set_cons_succ, Option.bind_some, Option.map_some, Option.bind_none, Option.map_none, Bool.not_true, Bool.not_false, Bool.false_eq_true, Bool.or_false, Bool.or_true, Nat.reduceAdd, Nat.reduceSub, Nat.zero_add, decide_true, decide_false, Bool.true_and, Bool.false_and, Bool.and_true, Bool.and_false, hw, isW, x0, x1, isFr]
      | _ => simp [bodyB, runM, seqS, frzS, frzs, frz1, retF, retS, ifS, skipS, andE, orE, notE, ifE, valF, vE, vV, kE, kV', callF, ar_nil, ar_cons, dn_fz, dn_ow, dn_bag, dn_scr, d_fz, d_ow, b_of, isiF, isD, blF, cmpF, chainF, orElse, lenS, bltF1, notT, andT, orT, tstF, l_list, l_tuple, l_all, l_listL, l_listT, l_tupL, l_tupT, l_abs, c_lt, c_le, c_gt, c_ge, c_eqI, c_neI, c_inS, c_niS, i_list, i_tuple, i_str, x_list, x_tuple, plainF, ixF, ixS, asgF, unpF, unF, setAll, List.length_cons, List.length_nil, List.map_cons, List.map_nil, if_true, if_false, List.cons_append, List.nil_append, List.append_nil, List.getElem?_cons_zero, List.getElem?_cons_succ, List.replicate, List.set_cons_zero, List.set_cons_succ, Option.bind_some, Option.map_some, Option.bind_none, Option.map_none, Bool.not_true, Bool.not_false, Bool.false_eq_true, Bool.or_false, Bool.or_true, Nat.reduceAdd, Nat.reduceSub, Nat.zero_add, decide_true, decide_false, Bool.true_and, Bool.false_and, Bool.and_true, Bool.and_false, hw, isW, x0, x1, isFr]
  | _ => rfl
theorem f_law_is_beginning (ts : List D) (d : D) (h : gd d = true) : FF (k + 2) "_law_is_beginning" [.fz (.tuple ts), .fz d] st = some (.fz (.bool (isBg ts.length d)), st) := by
  unfold FF
  rw [e__law_is_beginning]
  cases d with
  | tuple ds =>
    obtain ⟨hl, hg⟩ := gd_tup h
    by_cases h3 : ds.length = ts.length
    · have e3 : ((ds.length : Int) == (ts.length : Int)) = true := by simp [h3]
      obtain ⟨z, hz⟩ := forL_all (A := some (.fz (.tuple ts))) (B := some (.fz (.tuple ds))) (f := bodyB k) (p := isFr) (st := st) ds none fun d hd => body_ok _ _ d (hg d hd)
      have fo : frzS [1] (forF (plainF (vE 1)) (setF 2) (bodyB k)) [some (.fz (.tuple ts)), some (.fz (.tuple ds)), none] st = if ds.all isFr then some (.nx, [some (.fz (.tuple ts)), some (.fz (.tuple ds)), z], st) else some (.rt (.fz (.bool false)), [some (.fz (.tuple ts)), some (.fz (.tuple ds)), z], st) := hz
      have s1 : m__law_is_beginning whR (tbl.F whR 60 (k + 1)) [some (.fz (.tuple ts)), some (.fz (.tuple ds)), none] st = seqS (frzS [1] (forF (plainF (vE 1)) (setF 2) (bodyB k))) (seqS (frzS [] (retF (kE (.bool true)))) skipS) [some (.fz (.tuple ts)), some (.fz (.tuple ds)), none] st := by
        unfold m__law_is_beginning
        rw [seq_nx (env1 := [some (.fz (.tuple ts)), some (.fz (.tuple ds)), none]) (st1 := st) (by simp only [runM, seqS, frzS, frzs, frz1, retF, retS, ifS, skipS, andE, orE, notE, ifE, valF, vE, vV, kE, kV', callF, ar_nil, ar_cons, dn_fz, dn_ow, dn_bag, dn_scr, d_fz, d_ow, b_of, isiF, isD, blF, cmpF, chainF, orElse, lenS, bltF1, notT, andT, orT, tstF, l_list, l_tuple, l_all, l_listL, l_listT, l_tupL, l_tupT, l_abs, c_lt, c_le, c_gt, c_ge, c_eqI, c_neI, c_inS, c_niS, i_list, i_tuple, i_str, x_list, x_tuple, plainF, ixF, ixS, asgF, unpF, unF, setAll, List.length_cons, List.length_nil, List.map_cons, List.map_nil, if_true, if_false, List.cons_append, List.nil_append, List.append_nil, List.getElem?_cons_zero, List.getElem?_cons_succ, List.replicate, List.set_cons_zero, List.set_cons_succ, Option.bind_some, Option.map_some, Option.bind_none, Option.map_none, Bool.not_true, Bool.not_false, Bool.false_eq_true, Bool.or_false, Bool.or_true, Nat.reduceAdd, Nat.reduceSub, Nat.zero_add, decide_true, decide_false, Bool.true_and, Bool.false_and, Bool.and_true, Bool.and_false, e3])]
        rfl
      cases ha : ds.all isFr with
      | true =>
        rw [ha] at fo
        refine (run_rt (env1 := [some (.fz (.tuple ts)), some (.fz (.tuple ds)), z]) rfl (s1.trans ((seq_nx fo).trans rfl))).trans ?_
        simp [isBg, h3, ha]
      | false =>
        rw [ha] at fo
        refine (run_rt (env1 := [some (.fz (.tuple ts)), some (.fz (.tuple ds)), z]) rfl (s1.trans (seq_rt fo))).trans ?_
        simp [isBg, h3, ha]
    · have e3 : ((ds.length : Int) == (ts.length : Int)) = false := by simp; omega
      simp only [m__law_is_beginning, runM, seqS, frzS, frzs, frz1, retF, retS, ifS, skipS, andE, orE, notE, ifE, valF, vE, vV, kE, kV', callF, ar_nil, ar_cons, dn_fz, dn_ow, dn_bag, dn_scr, d_fz, d_ow, b_of, isiF, isD, blF, cmpF, chainF, orElse, lenS, bltF1, notT, andT, orT, tstF, l_list, l_tuple, l_all, l_listL, l_listT, l_tupL, l_tupT, l_abs, c_lt, c_le, c_gt, c_ge, c_eqI, c_neI, c_inS, c_niS, i_list, i_tuple, i_str, x_list, x_tuple, plainF, ixF, ixS, asgF, unpF, unF, setAll, List.length_cons, List.length_nil, List.map_cons, List.map_nil, if_true, if_false, List.cons_append, List.nil_append, List.append_nil, List.getElem?_cons_zero, List.getElem?_cons_succ, List.replicate, List.set_cons_zero, List.set_cons_succ, Option.bind_some, Option.map_some, Option.bind_none, Option.map_none, Bool.not_true, Bool.not_false, Bool.false_eq_true, Bool.or_false, Bool.or_true, Nat.reduceAdd, Nat.reduceSub, Nat.zero_add, decide_true, decide_false, Bool.true_and, Bool.false_and, Bool.and_true, Bool.and_false, e3]
      simp [isBg, h3]
  | _ => rfl
end K01

set_option maxHeartbeats 4000000
namespace K01
open PySem PySem.Spec PyProof.Rows L2 Iv
variable {k : Nat} {st : BSt}
/-! ### the law's hole -/
def lHole (later : List Str) : D → Bool
  | .tuple [h, r, .str z] => within h 0 1000 && (within r 1 100 && ((z == "") || hasS later z))
  | _ => false
theorem hasS_cons (x : Str) (l : List Str) (z : Str) (hx : (x == z) = (z == x)) : hasS (x :: l) z = ((z == x) || hasS l z) := by
  unfold hasS
  rw [List.any_cons, hx]
theorem len3 (r : List D) : ¬ ((r.length : Int) + 1 + 1 + 1 + 1 = 3) := by omega
theorem f_law_is_hole (d : D) (later : List Str) (h : gd d = true) (hl : ∀ x ∈ later, PyData.strOk x = true) (hn : later.length ≤ 1000) : FF (k + 2) "_law_is_hole" [.fz d, .fz (.list (later.map .str))] st = some (.fz (.bool (lHole later d)), st) := by
  unfold FF
  rw [e__law_is_hole]
  have hw := fun d a b => f_law_within (k := k) (st := st) d a b
  unfold FF at hw
  cases d with
  | tuple ds =>
    match ds with
    | [] => simp [m__law_is_hole, runM, seqS, frzS, frzs, frz1, retF, retS, ifS, skipS, andE, orE, notE, ifE, valF, vE, vV, kE, kV', callF, ar_nil, ar_cons, dn_fz, dn_ow, dn_bag, dn_scr, d_fz, d_ow, b_of, isiF, isD, blF, cmpF, chainF, orElse, lenS, bltF1, notT, andT, orT, tstF, l_list, l_tuple, l_all, l_listL, l_listT, l_tupL, l_tupT, l_abs, c_lt, c_le, c_gt, c_ge, c_eqI, c_neI, c_inS, c_niS, i_list, i_tuple, i_str, x_list, x_tuple, plainF, ixF, ixS, asgF, unpF, unF, setAll, List.length_cons, List.length_nil, List.map_cons, List.map_nil, if_true, if_false, List.cons_append, List.nil_append, List.append_nil, List.getElem?_cons_zero, List.getElem?_cons_succ, List.replicate, List.set_cons_zero, List.set_cons_succ, Option.bind_some, Option.map_some, Option.bind_none, Option.map_none, Bool.not_true, Bool.not_false, Bool.false_eq_true, Bool.or_false, Bool.or_true, Nat.reduceAdd, Nat.reduceSub, Nat.zero_add, decide_true, decide_false, Bool.true_and, Bool.false_and, Bool.and_true, Bool.and_false, lHole]
    | [_] => simp [m__law_is_hole, runM, seqS, frzS, frzs, frz1, retF, retS, ifS, skipS, andE, orE, notE, ifE, valF, vE, vV, kE, kV', callF, ar_nil, ar_cons, dn_fz, dn_ow, dn_bag, dn_scr, d_fz, d_ow, b_of, isiF, isD, blF, cmpF, chainF, orElse, lenS, bltF1, notT, andT, orT, tstF, l_list, l_tuple, l_all, l_listL, l_listT, l_tupL, l_tupT, l_abs, c_lt, c_le, c_gt, c_ge, c_eqI, c_neI, c_inS, c_niS, i_list, i_tuple, i_str, x_list, x_tuple, plainF, ixF, ixS, asgF, unpF, unF, setAll, List.length_cons, List.length_nil, List.map_cons, List.map_nil, if_true, if_false, List.cons_append, List.nil_append, List.append_nil, List.getElem?_cons_zero, List.getElem?_cons_succ, List.replicate, List.set_cons_zero, List.set_cons_succ, Option.bind_some, Option.map_some, Option.bind_none, Option.map_none, Bool.not_true, Bool.not_false, Bool.false_eq_true, Bool.or_false, Bool.or_true, Nat.reduceAdd, Nat.reduceSub, Nat.zero_add, decide_true, decide_false, Bool.true_and, Bool.false_and, Bool.and_true, Bool.and_false, lHole]
    | [_, _] => simp [m__law_is_hole, runM, seqS, frzS, frzs, frz1, retF, retS, ifS, skipS, andE, orE, notE, ifE, valF, vE, vV, kE, kV', callF, ar_nil, ar_cons, dn_fz, dn_ow, dn_bag, dn_scr, d_fz, d_ow, b_of, isiF, isD, blF, cmpF, chainF, orElse, lenS, bltF1, notT, andT, orT, tstF, l_list, l_tuple, l_all, l_listL, l_listT, l_tupL, l_tupT, l_abs, c_lt, c_le, c_gt, c_ge, c_eqI, c_neI, c_inS, c_niS, i_list, i_tuple, i_str, x_list, x_tuple, plainF, ixF, ixS, asgF, unpF, unF, setAll, List.length_cons, List.length_nil, List.map_cons, List.map_nil, if_true, if_false, List.cons_append, List.nil_append, List.append_nil, List.getElem?_cons_zero, List.getElem?_cons_succ, List.replicate, List.set_cons_zero, List.set_cons_succ, Option.bind_some, Option.map_some, Option.bind_none, Option.map_none, Bool.not_true, Bool.not_false, Bool.false_eq_true, Bool.or_false, Bool.or_true, Nat.reduceAdd, Nat.reduceSub, Nat.zero_add, decide_true, decide_false, Bool.true_and, Bool.false_and, Bool.and_true, Bool.and_false, lHole]
    | _ :: _ :: _ :: _ :: r => simp [m__law_is_hole, runM, seqS, frzS, frzs, frz1, retF, retS, ifS, skipS, andE, orE, notE, ifE, valF, vE, vV, kE, kV', callF, ar_nil, ar_cons, dn_fz, dn_ow, dn_bag, dn_scr, d_fz, d_ow, b_of, isiF, isD, blF, cmpF, chainF, orElse, lenS, bltF1, notT, andT, orT, tstF, l_list, l_tuple, l_all, l_listL, l_listT, l_tupL, l_tupT, l_abs, c_lt, c_le, c_gt, c_ge, c_eqI, c_neI, c_inS, c_niS, i_list, i_tuple, i_str, x_list, x_tuple, plainF, ixF, ixS, asgF, unpF, unF, setAll, List.length_cons, List.length_nil, List.map_cons, List.map_nil, if_true, if_false, List.cons_append, List.nil_append, List.append_nil, List.getElem?_cons_zero, List.getElem?_cons_succ, List.replicate, List.set_cons_zero, List.set_cons_succ, Option.bind_some, Option.map_some, Option.bind_none, Option.map_none, Bool.not_true, Bool.not_false, Bool.false_eq_true, Bool.or_false, Bool.or_true, Nat.reduceAdd, Nat.reduceSub, Nat.zero_add, decide_true, decide_false, Bool.true_and, Bool.false_and, Bool.and_true, Bool.and_false, len3, lHole]
    | [a, b, c] =>
      have x0 : atI [a, b, c] 0 = some a := rfl
      have x1 : atI [a, b, c] 1 = some b := rfl
      have x2 : atI [a, b, c] 2 = some c := rfl
      have e3 : (((3 : Nat) : Int) == 3) = true := rfl
      generalize hL : later.map PyData.str = nd
      cases h1 : within a 0 1000 with
      | false => 
        have : lHole later (.tuple [a, b, c]) = false := by
          cases c <;> simp [lHole, h1]
        rw [this]
        simp only [m__law_is_hole, runM, seqS, frzS, frzs, frz1, retF, retS, ifS, skipS, andE, orE, notE, ifE, valF, vE, vV, kE, kV', callF, ar_nil, ar_cons, dn_fz, dn_ow, dn_bag, dn_scr, d_fz, d_ow, b_of, isiF, isD, blF, cmpF, chainF, orElse, lenS, bltF1, notT, andT, orT, tstF, l_list, l_tuple, l_all, l_listL, l_listT, l_tupL, l_tupT, l_abs, c_lt, c_le, c_gt, c_ge, c_eqI, c_neI, c_inS, c_niS, i_list, i_tuple, i_str, x_list, x_tuple, plainF, ixF, ixS, asgF, unpF, unF, setAll, List.length_cons, List.length_nil, List.map_cons, List.map_nil, if_true, if_false, List.cons_append, List.nil_append, List.append_nil, List.getElem?_cons_zero, List.getElem?_cons_succ, List.replicate, List.set_cons_zero, List.set_cons_succ, Option.bind_some, Option.map_some, Option.bind_none, Option.map_none, Bool.not_true, Bool.not_false, Bool.false_eq_true, Bool.or_false, Bool.or_true, Nat.reduceAdd, Nat.reduceSub, Nat.zero_add, decide_true, decide_false, Bool.true_and, Bool.false_and, Bool.and_true, Bool.and_false, e3, x0, hw, h1]
      | true =>
        cases h2 : within b 1 100 with
        | false =>
          have : lHole later (.tuple [a, b, c]) = false := by
            cases c <;> simp [lHole, h2]
          rw [this]
          simp only [m__law_is_hole, runM, seqS, frzS, frzs, frz1, retF, retS, ifS, skipS, andE, orE, notE, ifE, valF, vE, vV, kE, kV', callF, ar_nil, ar_cons, dn_fz, dn_ow, dn_bag, dn_scr, d_fz, d_ow, b_of, isiF, isD, blF, cmpF, chainF, orElse, lenS, bltF1, notT, andT, orT, tstF, l_list, l_tuple, l_all, l_listL, l_listT, l_tupL, l_tupT, l_abs, c_lt, c_le, c_gt, c_ge, c_eqI, c_neI, c_inS, c_niS, i_list, i_tuple, i_str, x_list, x_tuple, plainF, ixF, ixS, asgF, unpF, unF, setAll, List.length_cons, List.length_nil, List.map_cons, List.map_nil, if_true, if_false, List.cons_append, List.nil_append, List.append_nil, List.getElem?_cons_zero, List.getElem?_cons_succ, List.replicate, List.set_cons_zero, List.set_cons_succ, Option.bind_some, Option.map_some, Option.bind_none, Option.map_none, Bool.not_true, Bool.not_false, Bool.false_eq_true, Bool.or_false, Bool.or_true, Nat.reduceAdd, Nat.reduceSub, Nat.zero_add, decide_true, decide_false, Bool.true_and, Bool.false_and, Bool.and_true, Bool.and_false, e3, x0, x1, hw, h1, h2]
        | true =>
          cases c with
          | str z =>
            have hz := (gd_str ((gd_tup h).2 (.str z) (by simp))).2
            have ok : ∀ x ∈ (("" : Str) :: later), PyData.strOk x = true := fun x hx => by
              rcases List.mem_cons.mp hx with rfl | hx
              · decide +kernel
              · exact hl x hx
            have c1 := c_inL hz ok
            have b1 : binD .Add (.list [.str ""]) (.list nd) = some (.ow (.list (.str "" :: nd))) := by
              show (if lenOk ([PyData.str ""].length + nd.length) then _ else none) = _
              have : lenOk ([PyData.str ""].length + nd.length) = true := by
                rw [← hL]
                refine decide_eq_true ?_
                rw [sizeLine_eq, List.length_map]
                simp
                omega
              rw [this]; rfl
            have b2 : lstF (argsF [(kE (.str ""))]) [some (.fz (.tuple [a, b, .str z])), some (.fz (.list nd))] st = some (.ow (.list [.str ""]), st) := by
              unfold lstF
              simp only [runM, seqS, frzS, frzs, frz1, retF, retS, ifS, skipS, andE, orE, notE, ifE, valF, vE, vV, kE, kV', callF, ar_nil, ar_cons, dn_fz, dn_ow, dn_bag, dn_scr, d_fz, d_ow, b_of, isiF, isD, blF, cmpF, chainF, orElse, lenS, bltF1, notT, andT, orT, tstF, l_list, l_tuple, l_all, l_listL, l_listT, l_tupL, l_tupT, l_abs, c_lt, c_le, c_gt, c_ge, c_eqI, c_neI, c_inS, c_niS, i_list, i_tuple, i_str, x_list, x_tuple, plainF, ixF, ixS, asgF, unpF, unF, setAll, List.length_cons, List.length_nil, List.map_cons, List.map_nil, if_true, if_false, List.cons_append, List.nil_append, List.append_nil, List.getElem?_cons_zero, List.getElem?_cons_succ, List.replicate, List.set_cons_zero, List.set_cons_succ, Option.bind_some, Option.map_some, Option.bind_none, Option.map_none, Bool.not_true, Bool.not_false, Bool.false_eq_true, Bool.or_false, Bool.or_true, Nat.reduceAdd, Nat.reduceSub, Nat.zero_add, decide_true, decide_false, Bool.true_and, Bool.false_and, Bool.and_true, Bool.and_false, dsOf, lenOk]
              rfl
            rw [List.map_cons, hL] at c1
            have r1 : lHole later (.tuple [a, b, .str z]) = hasS (("" : Str) :: later) z := by
              rw [hasS_cons _ _ _ (by rw [Bool.eq_iff_iff]; simp; exact ⟨Eq.symm, Eq.symm⟩)]
              simp only [lHole, h1, h2, Bool.true_and]
            rw [r1]
            simp only [m__law_is_hole, runM, seqS, frzS, frzs, frz1, retF, retS, ifS, skipS, andE, orE, notE, ifE, valF, vE, vV, kE, kV', callF, ar_nil, ar_cons, dn_fz, dn_ow, dn_bag, dn_scr, d_fz, d_ow, b_of, isiF, isD, blF, cmpF, chainF, orElse, lenS, bltF1, notT, andT, orT, tstF, l_list, l_tuple, l_all, l_listL, l_listT, l_tupL, l_tupT, l_abs, c_lt, c_le, c_gt, c_ge, c_eqI, c_neI, c_inS, c_niS, i_list, i_tuple, i_str, x_list, x_tuple, plainF, ixF, ixS, asgF, unpF, unF, setAll, List.length_cons, List.length_nil, List.map_cons, List.map_nil, if_true, if_false, List.cons_append, List.nil_append, List.append_nil, List.getElem?_cons_zero, List.getElem?_cons_succ, List.replicate, List.set_cons_zero, List.set_cons_succ, Option.bind_some, Option.map_some, Option.bind_none, Option.map_none, Bool.not_true, Bool.not_false, Bool.false_eq_true, Bool.or_false, Bool.or_true, Nat.reduceAdd, Nat.reduceSub, Nat.zero_add, decide_true, decide_false, Bool.true_and, Bool.false_and, Bool.and_true, Bool.and_false, e3, x0, x1, x2, hw, h1, h2, binF, b1, b2, c1]
          | _ => simp only [m__law_is_hole, runM, seqS, frzS, frzs, frz1, retF, retS, ifS, skipS, andE, orE, notE, ifE, valF, vE, vV, kE, kV', callF, ar_nil, ar_cons, dn_fz, dn_ow, dn_bag, dn_scr, d_fz, d_ow, b_of, isiF, isD, blF, cmpF, chainF, orElse, lenS, bltF1, notT, andT, orT, tstF, l_list, l_tuple, l_all, l_listL, l_listT, l_tupL, l_tupT, l_abs, c_lt, c_le, c_gt, c_ge, c_eqI, c_neI, c_inS, c_niS, i_list, i_tuple, i_str, x_list, x_tuple, plainF, ixF, ixS, asgF, unpF, unF, setAll, List.length_cons, List.length_nil, List.map_cons, List.map_nil, if_true, if_false, List.cons_append, List.nil_append, List.append_nil, List.getElem?_cons_zero, List.getElem?_cons_succ, List.replicate, List.set_cons_zero, List.set_cons_succ, Option.bind_some, Option.map_some, Option.bind_none, Option.map_none, Bool.not_true, Bool.not_false, Bool.false_eq_true, Bool.or_false, Bool.or_true, Nat.reduceAdd, Nat.reduceSub, Nat.zero_add, decide_true, decide_false, Bool.true_and, Bool.false_and, Bool.and_true, Bool.and_false, e3, x0, x1, x2, hw, h1, h2, lHole]
  | _ => rfl
/-! ### a search over a list, in the third slot of any frame -/
theorem forL_any {A B : Option R} {T : Env'} {f : SF} {p : D → Bool} : ∀ (ds : List D) (z : Option R), (∀ d ∈ ds, f (A :: B :: some (.fz d) :: T) st = if p d then some (.nx, A :: B :: some (.fz d) :: T, st) else some (.rt (.fz (.bool false)), A :: B :: some (.fz d) :: T, st)) →
    ∃ z', forL (setF 2) f ds (A :: B :: z :: T) st = if ds.all p then some (.nx, A :: B :: z' :: T, st) else some (.rt (.fz (.bool false)), A :: B :: z' :: T, st)
  | [], z, _ => ⟨z, rfl⟩
  | d :: ds, z, h => by
    have h1 := h d List.mem_cons_self
    obtain ⟨z', ih⟩ := forL_any ds (some (.fz d)) fun y hy => h y (List.mem_cons_of_mem _ hy)
    cases hp : p d with
    | true =>
      refine ⟨z', ?_⟩
      rw [hp] at h1
      simp only [forL, setF, Option.bind_some, List.set_cons_succ, List.set_cons_zero, h1, if_true, ih, List.all_cons, hp, Bool.true_and]
    | false =>
      refine ⟨some (.fz d), ?_⟩
      rw [hp] at h1
      simp only [forL, setF, Option.bind_some, List.set_cons_succ, List.set_cons_zero, h1, Bool.false_eq_true, if_false, List.all_cons, hp, Bool.false_and]
theorem rising_pw : ∀ hs : List Int, risingI hs = true ↔ hs.Pairwise (· < ·)
  | [] => by simp [risingI]
  | [x] => by simp [risingI]
  | x :: y :: r => by
    have ih := rising_pw (y :: r)
    simp only [risingI, Bool.and_eq_true, decide_eq_true_eq, ih]
    constructor
    · rintro ⟨h1, h2⟩
      refine List.pairwise_cons.mpr ⟨fun z hz => ?_, h2⟩
      rcases List.mem_cons.mp hz with rfl | hz
      · exact h1
      · have := (List.pairwise_cons.mp h2).1 z hz; omega
    · intro h
      obtain ⟨h1, h2⟩ := List.pairwise_cons.mp h
      exact ⟨h1 y List.mem_cons_self, h2⟩
theorem usort_iff (hs : List Int) : decide (hs = usort hs) = risingI hs := by
  rw [Bool.eq_iff_iff, decide_eq_true_eq, rising_pw]
  constructor
  · intro h; rw [h]; exact usort_lt hs
  · intro h; exact lt_unique h (usort_lt hs) fun z => (usort_mem z hs).symm
end K01

set_option maxHeartbeats 4000000
namespace K01
open PySem PySem.Spec PyProof.Rows L2 Iv
variable {k : Nat} {st : BSt}
theorem dep_mem {n : Nat} {d : D} : ∀ {l : List D}, d ∈ l → PyData.depthAll l ≤ n → d.depth ≤ n
  | x :: l, h, hn => by
    have hn : max x.depth (PyData.depthAll l) ≤ n := hn
    rcases List.mem_cons.mp h with rfl | h
    · omega
    · exact dep_mem h (by omega)
theorem dep_tup {l : List D} {n : Nat} (h : (PyData.tuple l).depth ≤ n) : ∀ d ∈ l, d.depth ≤ n := fun d hd => by
  have h : PyData.depthAll l + 1 ≤ n := h
  exact dep_mem hd (by omega)
noncomputable def bodyW (k : Nat) (env : Env') (st : BSt) : Option (Out × Env' × BSt) := (seqS (frzS [] (ifS (orT (notT (tstF (valF (isiF .tuple (vV 2))))) (orT (cmpF .NotEq (valF (orElse (lenS 2) (bltF1 .len (vV 2)))) (valF (kE (.int 2)))) (notT (tstF (valF (callF (tbl.F whR 60 (k + 2)) "_law_within" (argsF [(orElse (ixS 2 (valF (kE (.int 0)))) (ixF (vV 2) (valF (kE (.int 0))))), (kE (.int 0)), (kE (.int 1000))]))))))) (seqS (frzS [] (retF (kE (.bool false)))) skipS) skipS)) (seqS (frzS [0] (ifS (notT (tstF (valF (callF (tbl.F whR 60 (k + 2)) "_law_is_rain" (argsF [(vE 0), (orElse (ixS 2 (valF (kE (.int 1)))) (ixF (vV 2) (valF (kE (.int 1)))))]))))) (seqS (frzS [] (retF (kE (.bool false)))) skipS) skipS)) skipS)) env st
theorem bodyW_ok (ts : List D) (B : Option R) (d : D) (h : gd d = true) (hd : d.depth ≤ 60) : bodyW k [some (.fz (.tuple ts)), B, some (.fz d), none] st = if isRw ts.length d then some (.nx, [some (.fz (.tuple ts)), B, some (.fz d), none], st) else some (.rt (.fz (.bool false)), [some (.fz (.tuple ts)), B, some (.fz d), none], st) := by
  have hw := fun d a b => f_law_within (k := k + 1) (st := st) d a b
  have hr := fun d h hd => f_law_is_rain (k := k) (st := st) ts d h hd
  unfold FF at hw hr
  cases d with
  | tuple ds =>
    match ds with
    | [] => simp [bodyW, runM, seqS, frzS, frzs, frz1, retF, retS, ifS, skipS, andE, orE, notE, ifE, valF, vE, vV, kE, kV', callF, ar_nil, ar_cons, dn_fz, dn_ow, dn_bag, dn_scr, d_fz, d_ow, b_of, isiF, isD, blF, cmpF, chainF, orElse, lenS, bltF1, notT, andT, orT, tstF, l_list, l_tuple, l_all, l_listL, l_listT, l_tupL, l_tupT, l_abs, c_lt, c_le, c_gt, c_ge, c_eqI, c_neI, c_inS, c_niS, i_list, i_tuple, i_str, x_list, x_tuple, plainF, ixF, ixS, asgF, unpF, unF, setAll, List.length_cons, List.length_nil, List.map_cons, List.map_nil, if_true, if_false, List.cons_append, List.nil_append, List.append_nil, List.getElem?_cons_zero, List.getElem?_cons_succ, List.replicate, List.set_cons_zero, List.set_cons_succ, Option.bind_some, Option.map_some, Option.bind_none, Option.map_none, Bool.not_true, Bool.not_false, Bool.false_eq_true, Bool.or_false, Bool.or_true, Nat.reduceAdd, Nat.reduceSub, Nat.zero_add, decide_true, decide_false, Bool.true_and, Bool.false_and, Bool.and_true, Bool.and_false, isRw]
    | [_] => simp [bodyW, runM, seqS, frzS, frzs, frz1, retF, retS, ifS, skipS, andE, orE, notE, ifE, valF, vE, vV, kE, kV', callF, ar_nil, ar_cons, dn_fz, dn_ow, dn_bag, dn_scr, d_fz, d_ow, b_of, isiF, isD, blF, cmpF, chainF, orElse, lenS, bltF1, notT, andT, orT, tstF, l_list, l_tuple, l_all, l_listL, l_listT, l_tupL, l_tupT, l_abs, c_lt, c_le, c_gt, c_ge, c_eqI, c_neI, c_inS, c_niS, i_list, i_tuple, i_str, x_list, x_tuple, plainF, ixF, ixS, asgF, unpF, unF, setAll, List.length_cons, List.length_nil, List.map_cons, List.map_nil, if_true, if_false, List.cons_append, List.nil_append, List.append_nil, List.getElem?_cons_zero, List.getElem?_cons_succ, List.replicate, List.set_cons_zero, List.set_cons_succ, Option.bind_some, Option.map_some, Option.bind_none, Option.map_none, Bool.not_true, Bool.not_false, Bool.false_eq_true, Bool.or_false, Bool.or_true, Nat.reduceAdd, Nat.reduceSub, Nat.zero_add, decide_true, decide_false, Bool.true_and, Bool.false_and, Bool.and_true, Bool.and_false, isRw]
    | _ :: _ :: _ :: r =>
      have e : ¬ ((r.length : Int) + 1 + 1 + 1 = 2) := by omega
      simp [bodyW, runM, seqS, frzS, frzs, frz1, retF, retS, ifS, skipS, andE, orE, notE, ifE, valF, vE, vV, kE, kV', callF, ar_nil, ar_cons, dn_fz, dn_ow, dn_bag, dn_scr, d_fz, d_ow, b_of, isiF, isD, blF, cmpF, chainF, orElse, lenS, bltF1, notT, andT, orT, tstF, l_list, l_tuple, l_all, l_listL, l_listT, l_tupL, l_tupT, l_abs, c_lt, c_le, c_gt, c_ge, c_eqI, c_neI, c_inS, c_niS, i_list, i_tuple, i_str, x_list, x_tuple, plainF, ixF, ixS, asgF, unpF, unF, setAll, List.length_cons, List.length_nil, List.map_cons, List.map_nil, if_true, if_false, List.cons_append, List.nil_append, List.append_nil, List.getElem?_cons_zero, List.getElem?_cons_succ, List.replicate, List.set_cons_zero, List.set_cons_succ, Option.bind_some, Option.map_some, Option.bind_none, Option.map_none, Bool.not_true, Bool.not_false, Bool.false_eq_true, Bool.or_false, Bool.or_true, Nat.reduceAdd, Nat.reduceSub, Nat.zero_add, decide_true, decide_false, Bool.true_and, Bool.false_and, Bool.and_true, Bool.and_false, e, isRw]
    | [a, b] =>
      have x0 : atI [a, b] 0 = some a := rfl
      have x1 : atI [a, b] 1 = some b := rfl
      have e3 : (((2 : Nat) : Int) == 2) = true := rfl
      have gb := (gd_tup h).2 b (by simp)
      have db := dep_tup hd b (by simp)
      cases h1 : within a 0 1000 with
      | false => simp only [bodyW, runM, seqS, frzS, frzs, frz1, retF, retS, ifS, skipS, andE, orE, notE, ifE, valF, vE, vV, kE, kV', callF, ar_nil, ar_cons, dn_fz, dn_ow, dn_bag, dn_scr, d_fz, d_ow, b_of, isiF, isD, blF, cmpF, chainF, orElse, lenS, bltF1, notT, andT, orT, tstF, l_list, l_tuple, l_all, l_listL, l_listT, l_tupL, l_tupT, l_abs, c_lt, c_le, c_gt, c_ge, c_eqI, c_neI, c_inS, c_niS, i_list, i_tuple, i_str, x_list, x_tuple, plainF, ixF, ixS, asgF, unpF, unF, setAll, List.length_cons, List.length_nil, List.map_cons, List.map_nil, if_true, if_false, List.cons_append, List.nil_append, List.append_nil, List.getElem?_cons_zero, List.getElem?_cons_succ, List.replicate, List.set_cons_zero, List.set_cons_succ, Option.bind_some, Option.map_some, Option.bind_none, Option.map_none, Bool.not_true, Bool.not_false, Bool.false_eq_true, Bool.or_false, Bool.or_true, Nat.reduceAdd, Nat.reduceSub, Nat.zero_add, decide_true, decide_false, Bool.true_and, Bool.false_and, Bool.and_true, Bool.and_false, e3, x0, hw, h1, isRw]
      | true =>
        cases h2 : isRn ts.length b with
        | false => simp only [bodyW, runM, seqS, frzS, frzs, frz1, retF, retS, ifS, skipS, andE, orE, notE, ifE, valF, vE, vV, kE, kV', callF, ar_nil, ar_cons, dn_fz, dn_ow, dn_bag, dn_scr, d_fz, d_ow, b_of, isiF, isD, blF, cmpF, chainF, orElse, lenS, bltF1, notT, andT, orT, tstF, l_list, l_tuple, l_all, l_listL, l_listT, l_tupL, l_tupT, l_abs, c_lt, c_le, c_gt, c_ge, c_eqI, c_neI, c_inS, c_niS, i_list, i_tuple, i_str, x_list, x_tuple, plainF, ixF, ixS, asgF, unpF, unF, setAll, List.length_cons, List.length_nil, List.map_cons, List.map_nil, if_true, if_false, List.cons_append, List.nil_append, List.append_nil, List.getElem?_cons_zero, List.getElem?_cons_succ, List.replicate, List.set_cons_zero, List.set_cons_succ, Option.bind_some, Option.map_some, Option.bind_none, Option.map_none, Bool.not_true, Bool.not_false, Bool.false_eq_true, Bool.or_false, Bool.or_true, Nat.reduceAdd, Nat.reduceSub, Nat.zero_add, decide_true, decide_false, Bool.true_and, Bool.false_and, Bool.and_true, Bool.and_false, e3, x0, x1, hw, h1, hr b gb db, h2, isRw]
        | true => simp only [bodyW, runM, seqS, frzS, frzs, frz1, retF, retS, ifS, skipS, andE, orE, notE, ifE, valF, vE, vV, kE, kV', callF, ar_nil, ar_cons, dn_fz, dn_ow, dn_bag, dn_scr, d_fz, d_ow, b_of, isiF, isD, blF, cmpF, chainF, orElse, lenS, bltF1, notT, andT, orT, tstF, l_list, l_tuple, l_all, l_listL, l_listT, l_tupL, l_tupT, l_abs, c_lt, c_le, c_gt, c_ge, c_eqI, c_neI, c_inS, c_niS, i_list, i_tuple, i_str, x_list, x_tuple, plainF, ixF, ixS, asgF, unpF, unF, setAll, List.length_cons, List.length_nil, List.map_cons, List.map_nil, if_true, if_false, List.cons_append, List.nil_append, List.append_nil, List.getElem?_cons_zero, List.getElem?_cons_succ, List.replicate, List.set_cons_zero, List.set_cons_succ, Option.bind_some, Option.map_some, Option.bind_none, Option.map_none, Bool.not_true, Bool.not_false, Bool.false_eq_true, Bool.or_false, Bool.or_true, Nat.reduceAdd, Nat.reduceSub, Nat.zero_add, decide_true, decide_false, Bool.true_and, Bool.false_and, Bool.and_true, Bool.and_false, e3, x0, x1, hw, h1, hr b gb db, h2, isRw]
  | _ => rfl
theorem lay_ints : ∀ l : List Int, PyData.canLayAll0 (l.map PyData.int) = true
  | [] => rfl
  | x :: l => lay_ints l
theorem dep_ints : ∀ l : List Int, PyData.depthAll (l.map PyData.int) = 0
  | [] => rfl
  | x :: l => by
    show max 0 (PyData.depthAll (l.map PyData.int)) = 0
    rw [dep_ints l]; rfl
theorem sh_ints (l : List Int) : SeqAt.shaped (.list (l.map PyData.int)) = true := by
  show (PyData.canLayAll0 (l.map PyData.int) && decide (PyData.depthAll (l.map PyData.int) + 1 ≤ 64)) = true
  rw [lay_ints, dep_ints]; rfl
theorem eqv_ints : ∀ (a b : List Int), PyData.eqvAll (a.map PyData.int) (b.map PyData.int) = decide (a = b)
  | [], [] => rfl
  | [], y :: b => by simp [PyData.eqvAll]
  | x :: a, [] => by simp [PyData.eqvAll]
  | x :: a, y :: b => by
    have ih := eqv_ints a b
    show ((x == y) && PyData.eqvAll (a.map PyData.int) (b.map PyData.int)) = _
    rw [ih, Bool.eq_iff_iff]
    simp
theorem c_eqL (a b : List Int) : cmpD .Eq (.list (a.map PyData.int)) (.list (b.map PyData.int)) = some (decide (a = b)) := by
  show (if SeqAt.shaped (.list (a.map PyData.int)) && SeqAt.shaped (.list (b.map PyData.int)) then some (PyData.eqvAll (a.map PyData.int) (b.map PyData.int)) else none) = _
  rw [sh_ints, sh_ints, eqv_ints]; rfl
theorem c_neL (a b : List Int) : cmpD .NotEq (.list (a.map PyData.int)) (.list (b.map PyData.int)) = some (!decide (a = b)) := by
  show (if SeqAt.shaped (.list (a.map PyData.int)) && SeqAt.shaped (.list (b.map PyData.int)) then some (!PyData.eqvAll (a.map PyData.int) (b.map PyData.int)) else none) = _
  rw [sh_ints, sh_ints, eqv_ints]; rfl
theorem intsOf_map (l : List Int) : intsOf (l.map PyData.int) = some l := by
  induction l with
  | nil => rfl
  | cons x l ih => simp [intsOf, ih]
theorem ss_ints {f : VF} {env : Env'} {l : List Int} (hf : f env st = some (.list (l.map PyData.int), st)) (h : l.length < 64) : ssF f env st = some (.ow (.list ((usort l).map PyData.int)), st) := by
  unfold ssF
  rw [hf]
  simp only [Option.bind_some, intsOf_map]
  rw [if_pos (decide_eq_true h)]
theorem f_law_is_weather (ts : List D) (d : D) (h : gd d = true) (hd : d.depth ≤ 60) : FF (k + 3) "_law_is_weather" [.fz (.tuple ts), .fz d] st = some (.fz (.bool (isWt ts.length d)), st) := by
  unfold FF
  rw [e__law_is_weather]
  cases d with
  | tuple ds =>
    obtain ⟨hl, hg⟩ := gd_tup h
    have dp := dep_tup hd
    have lc : decide ((1 : Int) ≤ (ds.length : Int)) = decide (1 ≤ ds.length) := by rw [Bool.eq_iff_iff]; simp; omega
    have lc2 : decide ((ds.length : Int) ≤ 4) = decide (ds.length ≤ 4) := by rw [Bool.eq_iff_iff]; simp; omega
    cases c1 : decide (1 ≤ ds.length) with
    | false =>
      rw [c1] at lc
      simp only [m__law_is_weather, runM, seqS, frzS, frzs, frz1, retF, retS, ifS, skipS, andE, orE, notE, ifE, valF, vE, vV, kE, kV', callF, ar_nil, ar_cons, dn_fz, dn_ow, dn_bag, dn_scr, d_fz, d_ow, b_of, isiF, isD, blF, cmpF, chainF, orElse, lenS, bltF1, notT, andT, orT, tstF, l_list, l_tuple, l_all, l_listL, l_listT, l_tupL, l_tupT, l_abs, c_lt, c_le, c_gt, c_ge, c_eqI, c_neI, c_inS, c_niS, i_list, i_tuple, i_str, x_list, x_tuple, plainF, ixF, ixS, asgF, unpF, unF, setAll, List.length_cons, List.length_nil, List.map_cons, List.map_nil, if_true, if_false, List.cons_append, List.nil_append, List.append_nil, List.getElem?_cons_zero, List.getElem?_cons_succ, List.replicate, List.set_cons_zero, List.set_cons_succ, Option.bind_some, Option.map_some, Option.bind_none, Option.map_none, Bool.not_true, Bool.not_false, Bool.false_eq_true, Bool.or_false, Bool.or_true, Nat.reduceAdd, Nat.reduceSub, Nat.zero_add, decide_true, decide_false, Bool.true_and, Bool.false_and, Bool.and_true, Bool.and_false, lc, isWt, c1]
    | true =>
      cases c2 : decide (ds.length ≤ 4) with
      | false =>
        rw [c1] at lc
        rw [c2] at lc2
        simp only [m__law_is_weather, runM, seqS, frzS, frzs, frz1, retF, retS, ifS, skipS, andE, orE, notE, ifE, valF, vE, vV, kE, kV', callF, ar_nil, ar_cons, dn_fz, dn_ow, dn_bag, dn_scr, d_fz, d_ow, b_of, isiF, isD, blF, cmpF, chainF, orElse, lenS, bltF1, notT, andT, orT, tstF, l_list, l_tuple, l_all, l_listL, l_listT, l_tupL, l_tupT, l_abs, c_lt, c_le, c_gt, c_ge, c_eqI, c_neI, c_inS, c_niS, i_list, i_tuple, i_str, x_list, x_tuple, plainF, ixF, ixS, asgF, unpF, unF, setAll, List.length_cons, List.length_nil, List.map_cons, List.map_nil, if_true, if_false, List.cons_append, List.nil_append, List.append_nil, List.getElem?_cons_zero, List.getElem?_cons_succ, List.replicate, List.set_cons_zero, List.set_cons_succ, Option.bind_some, Option.map_some, Option.bind_none, Option.map_none, Bool.not_true, Bool.not_false, Bool.false_eq_true, Bool.or_false, Bool.or_true, Nat.reduceAdd, Nat.reduceSub, Nat.zero_add, decide_true, decide_false, Bool.true_and, Bool.false_and, Bool.and_true, Bool.and_false, lc, lc2, isWt, c1, c2]
      | true =>
        rw [c1] at lc
        rw [c2] at lc2
        have n1 := of_decide_eq_true c1
        have n2 := of_decide_eq_true c2
        obtain ⟨z, hz⟩ := forL_any (A := some (.fz (.tuple ts))) (B := some (.fz (.tuple ds))) (T := [none]) (f := bodyW k) (p := isRw ts.length) (st := st) ds none fun d hd => bodyW_ok ts _ d (hg d hd) (dp d hd)
        have fo : frzS [1] (forF (plainF (vE 1)) (setF 2) (bodyW k)) [some (.fz (.tuple ts)), some (.fz (.tuple ds)), none, none] st = if ds.all (isRw ts.length) then some (.nx, [some (.fz (.tuple ts)), some (.fz (.tuple ds)), z, none], st) else some (.rt (.fz (.bool false)), [some (.fz (.tuple ts)), some (.fz (.tuple ds)), z, none], st) := hz
        have s1 : m__law_is_weather whR (tbl.F whR 60 (k + 2)) [some (.fz (.tuple ts)), some (.fz (.tuple ds)), none, none] st = seqS (frzS [1] (forF (plainF (vE 1)) (setF 2) (bodyW k))) (seqS (frzS [1] (asgF 3 (lcF (plainF (vE 1)) [2] (setF 2) yesT (orElse (ixS 2 (valF (kE (.int 0)))) (ixF (vV 2) (valF (kE (.int 0)))))))) (seqS (frzS [] (retF (andE (valF (blF (cmpF .Eq (valF (orElse (ixS 3 (valF (kE (.int 0)))) (ixF (vV 3) (valF (kE (.int 0)))))) (valF (kE (.int 0)))))) (blF (cmpF .Eq (vV 3) (valF (ssF (vV 3)))))))) skipS)) [some (.fz (.tuple ts)), some (.fz (.tuple ds)), none, none] st := by
          unfold m__law_is_weather
          rw [seq_nx (env1 := [some (.fz (.tuple ts)), some (.fz (.tuple ds)), none, none]) (st1 := st) (by simp only [runM, seqS, frzS, frzs, frz1, retF, retS, ifS, skipS, andE, orE, notE, ifE, valF, vE, vV, kE, kV', callF, ar_nil, ar_cons, dn_fz, dn_ow, dn_bag, dn_scr, d_fz, d_ow, b_of, isiF, isD, blF, cmpF, chainF, orElse, lenS, bltF1, notT, andT, orT, tstF, l_list, l_tuple, l_all, l_listL, l_listT, l_tupL, l_tupT, l_abs, c_lt, c_le, c_gt, c_ge, c_eqI, c_neI, c_inS, c_niS, i_list, i_tuple, i_str, x_list, x_tuple, plainF, ixF, ixS, asgF, unpF, unF, setAll, List.length_cons, List.length_nil, List.map_cons, List.map_nil, if_true, if_false, List.cons_append, List.nil_append, List.append_nil, List.getElem?_cons_zero, List.getElem?_cons_succ, List.replicate, List.set_cons_zero, List.set_cons_succ, Option.bind_some, Option.map_some, Option.bind_none, Option.map_none, Bool.not_true, Bool.not_false, Bool.false_eq_true, Bool.or_false, Bool.or_true, Nat.reduceAdd, Nat.reduceSub, Nat.zero_add, decide_true, decide_false, Bool.true_and, Bool.false_and, Bool.and_true, Bool.and_false, lc, lc2])]
          rfl
        cases ha : ds.all (isRw ts.length) with
        | false =>
          rw [ha] at fo
          refine (run_rt (env1 := [some (.fz (.tuple ts)), some (.fz (.tuple ds)), z, none]) rfl (s1.trans (seq_rt fo))).trans ?_
          simp only [isWt, c1, c2, ha, runM, seqS, frzS, frzs, frz1, retF, retS, ifS, skipS, andE, orE, notE, ifE, valF, vE, vV, kE, kV', callF, ar_nil, ar_cons, dn_fz, dn_ow, dn_bag, dn_scr, d_fz, d_ow, b_of, isiF, isD, blF, cmpF, chainF, orElse, lenS, bltF1, notT, andT, orT, tstF, l_list, l_tuple, l_all, l_listL, l_listT, l_tupL, l_tupT, l_abs, c_lt, c_le, c_gt, c_ge, c_eqI, c_neI, c_inS, c_niS, i_list, i_tuple, i_str, x_list, x_tuple, plainF, ixF, ixS, asgF, unpF, unF, setAll, List.length_cons, List.length_nil, List.map_cons, List.map_nil, if_true, if_false, List.cons_append, List.nil_append, List.append_nil, List.getElem?_cons_zero, List.getElem?_cons_succ, List.replicate, List.set_cons_zero, List.set_cons_succ, Option.bind_some, Option.map_some, Option.bind_none, Option.map_none, Bool.not_true, Bool.not_false, Bool.false_eq_true, Bool.or_false, Bool.or_true, Nat.reduceAdd, Nat.reduceSub, Nat.zero_add, decide_true, decide_false, Bool.true_and, Bool.false_and, Bool.and_true, Bool.and_false]
        | true =>
          rw [ha] at fo
          have hm := List.all_eq_true.mp ha
          have l2 : lcF (plainF (vE 1)) [2] (setF 2) yesT (orElse (ixS 2 (valF (kE (.int 0)))) (ixF (vV 2) (valF (kE (.int 0))))) [some (.fz (.tuple ts)), some (.fz (.tuple ds)), z, none] st = some (.ow (.list (ds.map fun d => .int (hgt d))), st) :=
            lcF_map _ rfl (fun d hd => by
              obtain ⟨x, y, rfl⟩ := isRw_shape (hm d hd)
              exact ⟨_, _, rfl, rfl, rfl⟩) hl
          have e : (ds.map fun d => PyData.int (hgt d)) = (ds.map hgt).map PyData.int := by rw [List.map_map]; rfl
          rw [e] at l2
          have hx : atI ((ds.map hgt).map PyData.int) 0 = some (.int ((ds.map hgt).headD 1)) := by
            cases ds with
            | nil => simp at n1
            | cons a b => exact atI_nat (xs := ((a :: b).map hgt).map PyData.int) (j := 0) rfl
          have e' : ((ds.map hgt).headD 1 == 0) = decide ((ds.map hgt).headD 1 = 0) := by rw [Bool.beq_eq_decide_eq]
          have hn : (ds.map hgt).length < 64 := by rw [List.length_map]; omega
          have ur := usort_iff (ds.map hgt)
          have fin : isWt ts.length (.tuple ds) = (decide ((ds.map hgt).headD 1 = 0) && risingI (ds.map hgt)) := by
            simp only [isWt, c1, c2, ha, Bool.true_and]
          rw [fin]
          refine run_rt (env1 := [some (.fz (.tuple ts)), some (.fz (.tuple ds)), z, some (.ow (.list ((ds.map hgt).map PyData.int)))]) rfl (s1.trans ((seq_nx fo).trans ?_))
          rw [seq_nx (env1 := [some (.fz (.tuple ts)), some (.fz (.tuple ds)), z, some (.ow (.list ((ds.map hgt).map PyData.int)))]) (st1 := st) (by simp only [runM, seqS, frzS, frzs, frz1, retF, retS, ifS, skipS, andE, orE, notE, ifE, valF, vE, vV, kE, kV', callF, ar_nil, ar_cons, dn_fz, dn_ow, dn_bag, dn_scr, d_fz, d_ow, b_of, isiF, isD, blF, cmpF, chainF, orElse, lenS, bltF1, notT, andT, orT, tstF, l_list, l_tuple, l_all, l_listL, l_listT, l_tupL, l_tupT, l_abs, c_lt, c_le, c_gt, c_ge, c_eqI, c_neI, c_inS, c_niS, i_list, i_tuple, i_str, x_list, x_tuple, plainF, ixF, ixS, asgF, unpF, unF, setAll, List.length_cons, List.length_nil, List.map_cons, List.map_nil, if_true, if_false, List.cons_append, List.nil_append, List.append_nil, List.getElem?_cons_zero, List.getElem?_cons_succ, List.replicate, List.set_cons_zero, List.set_cons_succ, Option.bind_some, Option.map_some, Option.bind_none, Option.map_none, Bool.not_true, Bool.not_false, Bool.false_eq_true, Bool.or_false, Bool.or_true, Nat.reduceAdd, Nat.reduceSub, Nat.zero_add, decide_true, decide_false, Bool.true_and, Bool.false_and, Bool.and_true, Bool.and_false, l2])]
          refine seq_rt ?_
          rw [← e', ← ur]
          generalize (ds.map hgt).headD 1 = hd0 at hx
          generalize ds.map hgt = hs at hx hn
          have sS := ss_ints (st := st) (f := vV 3) (env := [some (.fz (.tuple ts)), some (.fz (.tuple ds)), z, some (.ow (.list (hs.map PyData.int)))]) rfl hn
          have cE := c_eqL hs (usort hs)
          generalize hs.map PyData.int = hd1 at hx sS cE
          cases h0 : (hd0 == 0) with
          | false => simp only [runM, seqS, frzS, frzs, frz1, retF, retS, ifS, skipS, andE, orE, notE, ifE, valF, vE, vV, kE, kV', callF, ar_nil, ar_cons, dn_fz, dn_ow, dn_bag, dn_scr, d_fz, d_ow, b_of, isiF, isD, blF, cmpF, chainF, orElse, lenS, bltF1, notT, andT, orT, tstF, l_list, l_tuple, l_all, l_listL, l_listT, l_tupL, l_tupT, l_abs, c_lt, c_le, c_gt, c_ge, c_eqI, c_neI, c_inS, c_niS, i_list, i_tuple, i_str, x_list, x_tuple, plainF, ixF, ixS, asgF, unpF, unF, setAll, List.length_cons, List.length_nil, List.map_cons, List.map_nil, if_true, if_false, List.cons_append, List.nil_append, List.append_nil, List.getElem?_cons_zero, List.getElem?_cons_succ, List.replicate, List.set_cons_zero, List.set_cons_succ, Option.bind_some, Option.map_some, Option.bind_none, Option.map_none, Bool.not_true, Bool.not_false, Bool.false_eq_true, Bool.or_false, Bool.or_true, Nat.reduceAdd, Nat.reduceSub, Nat.zero_add, decide_true, decide_false, Bool.true_and, Bool.false_and, Bool.and_true, Bool.and_false, hx, h0]
          | true => simp only [runM, seqS, frzS, frzs, frz1, retF, retS, ifS, skipS, andE, orE, notE, ifE, valF, vE, vV, kE, kV', callF, ar_nil, ar_cons, dn_fz, dn_ow, dn_bag, dn_scr, d_fz, d_ow, b_of, isiF, isD, blF, cmpF, chainF, orElse, lenS, bltF1, notT, andT, orT, tstF, l_list, l_tuple, l_all, l_listL, l_listT, l_tupL, l_tupT, l_abs, c_lt, c_le, c_gt, c_ge, c_eqI, c_neI, c_inS, c_niS, i_list, i_tuple, i_str, x_list, x_tuple, plainF, ixF, ixS, asgF, unpF, unF, setAll, List.length_cons, List.length_nil, List.map_cons, List.map_nil, if_true, if_false, List.cons_append, List.nil_append, List.append_nil, List.getElem?_cons_zero, List.getElem?_cons_succ, List.replicate, List.set_cons_zero, List.set_cons_succ, Option.bind_some, Option.map_some, Option.bind_none, Option.map_none, Bool.not_true, Bool.not_false, Bool.false_eq_true, Bool.or_false, Bool.or_true, Nat.reduceAdd, Nat.reduceSub, Nat.zero_add, decide_true, decide_false, Bool.true_and, Bool.false_and, Bool.and_true, Bool.and_false, hx, h0, sS, cE]
  | _ => rfl
end K01

set_option maxHeartbeats 4000000
namespace K01
open PySem PySem.Spec PyProof.Rows L2 Iv
variable {k : Nat} {st : BSt}
/-! ### the law's tubs: the first loop -/
noncomputable def bodyX (k : Nat) : SF := (seqS (frzS [] (ifS (orT (notT (tstF (valF (isiF .tuple (vV 2))))) (orT (cmpF .NotEq (valF (orElse (lenS 2) (bltF1 .len (vV 2)))) (valF (kE (.int 3)))) (orT (notT (tstF (valF (callF (tbl.F whR 60 (k + 2)) "_law_is_name" (argsF [(orElse (ixS 2 (valF (kE (.int 0)))) (ixF (vV 2) (valF (kE (.int 0)))))]))))) (notT (tstF (valF (callF (tbl.F whR 60 (k + 2)) "_law_within" (argsF [(orElse (ixS 2 (valF (kE (.int 1)))) (ixF (vV 2) (valF (kE (.int 1))))), (kE (.int 1)), (kE (.int 1000))])))))))) (seqS (frzS [] (retF (kE (.bool false))))
    skipS) skipS))
    (seqS (frzS [] (ifS (orT (notT (tstF (valF (isiF .tuple (valF (orElse (ixS 2 (valF (kE (.int 2)))) (ixF (vV 2) (valF (kE (.int 2)))))))))) (orT (cmpF .Gt (valF (bltF1 .len (valF (orElse (ixS 2 (valF (kE (.int 2)))) (ixF (vV 2) (valF (kE (.int 2)))))))) (valF (kE (.int 3)))) (cmpF .In (valF (orElse (ixS 2 (valF (kE (.int 0)))) (ixF (vV 2) (valF (kE (.int 0)))))) (vV 1)))) (seqS (frzS [] (retF (kE (.bool false))))
    skipS) skipS))
    (seqS (frzS [] (appS 1 (orElse (ixS 2 (valF (kE (.int 0)))) (ixF (vV 2) (valF (kE (.int 0)))))))
    skipS)))
def lTub (ns : List Str) : D → Bool
  | .tuple [.str n, g, .tuple hs] => isNm (.str n) && (within g 1 1000 && (decide (hs.length ≤ 3) && !hasS ns n))
  | _ => false
theorem bodyX_ok (A : Option R) (T : Env') (ns : List Str) (d : D) (h : gd d = true) (hns : ∀ x ∈ ns, PyData.strOk x = true) (hn : ns.length ≤ 1000) : bodyX k (A :: some (.ow (.list (ns.map PyData.str))) :: some (.fz d) :: T) st = if lTub ns d then some (.nx, A :: some (.ow (.list ((ns ++ [nm d]).map PyData.str))) :: some (.fz d) :: T, st) else some (.rt (.fz (.bool false)), A :: some (.ow (.list (ns.map PyData.str))) :: some (.fz d) :: T, st) := by
  have hw := fun d a b => f_law_within (k := k + 1) (st := st) d a b
  have hi := fun d h => f_law_is_name (k := k + 1) (st := st) d h
  unfold FF at hw hi
  have hsz : decide ((ns.map PyData.str).length < sizeLine) = true := by
    refine decide_eq_true ?_
    rw [sizeLine_eq, List.length_map]
    omega
  rw [List.map_append]
  have hc := fun n hn => c_inL (l := ns) (n := n) hn hns
  generalize ns.map PyData.str = nd at hsz hc
  cases d with
  | tuple ds =>
    match ds with
    | [] => simp [bodyX, runM, seqS, frzS, frzs, frz1, retF, retS, ifS, skipS, andE, orE, notE, ifE, valF, vE, vV, kE, kV', callF, ar_nil, ar_cons, dn_fz, dn_ow, dn_bag, dn_scr, d_fz, d_ow, b_of, isiF, isD, blF, cmpF, chainF, orElse, lenS, bltF1, notT, andT, orT, tstF, l_list, l_tuple, l_all, l_listL, l_listT, l_tupL, l_tupT, l_abs, c_lt, c_le, c_gt, c_ge, c_eqI, c_neI, c_inS, c_niS, i_list, i_tuple, i_str, x_list, x_tuple, plainF, ixF, ixS, asgF, unpF, unF, setAll, List.length_cons, List.length_nil, List.map_cons, List.map_nil, if_true, if_false, List.cons_append, List.nil_append, List.append_nil, List.getElem?_cons_zero, List.getElem?_cons_succ, List.replicate, List.set_cons_zero, List.set_cons_succ, Option.bind_some, Option.map_some, Option.bind_none, Option.map_none, Bool.not_true, Bool.not_false, Bool.false_eq_true, Bool.or_false, Bool.or_true, Nat.reduceAdd, Nat.reduceSub, Nat.zero_add, decide_true, decide_false, Bool.true_and, Bool.false_and, Bool.and_true, Bool.and_false, lTub]
    | [_] => simp [bodyX, runM, seqS, frzS, frzs, frz1, retF, retS, ifS, skipS, andE, orE, notE, ifE, valF, vE, vV, kE, kV', callF, ar_nil, ar_cons, dn_fz, dn_ow, dn_bag, dn_scr, d_fz, d_ow, b_of, isiF, isD, blF, cmpF, chainF, orElse, lenS, bltF1, notT, andT, orT, tstF, l_list, l_tuple, l_all, l_listL, l_listT, l_tupL, l_tupT, l_abs, c_lt, c_le, c_gt, c_ge, c_eqI, c_neI, c_inS, c_niS, i_list, i_tuple, i_str, x_list, x_tuple, plainF, ixF, ixS, asgF, unpF, unF, setAll, List.length_cons, List.length_nil, List.map_cons, List.map_nil, if_true, if_false, List.cons_append, List.nil_append, List.append_nil, List.getElem?_cons_zero, List.getElem?_cons_succ, List.replicate, List.set_cons_zero, List.set_cons_succ, Option.bind_some, Option.map_some, Option.bind_none, Option.map_none, Bool.not_true, Bool.not_false, Bool.false_eq_true, Bool.or_false, Bool.or_true, Nat.reduceAdd, Nat.reduceSub, Nat.zero_add, decide_true, decide_false, Bool.true_and, Bool.false_and, Bool.and_true, Bool.and_false, lTub]
    | [_, _] => simp [bodyX, runM, seqS, frzS, frzs, frz1, retF, retS, ifS, skipS, andE, orE, notE, ifE, valF, vE, vV, kE, kV', callF, ar_nil, ar_cons, dn_fz, dn_ow, dn_bag, dn_scr, d_fz, d_ow, b_of, isiF, isD, blF, cmpF, chainF, orElse, lenS, bltF1, notT, andT, orT, tstF, l_list, l_tuple, l_all, l_listL, l_listT, l_tupL, l_tupT, l_abs, c_lt, c_le, c_gt, c_ge, c_eqI, c_neI, c_inS, c_niS, i_list, i_tuple, i_str, x_list, x_tuple, plainF, ixF, ixS, asgF, unpF, unF, setAll, List.length_cons, List.length_nil, List.map_cons, List.map_nil, if_true, if_false, List.cons_append, List.nil_append, List.append_nil, List.getElem?_cons_zero, List.getElem?_cons_succ, List.replicate, List.set_cons_zero, List.set_cons_succ, Option.bind_some, Option.map_some, Option.bind_none, Option.map_none, Bool.not_true, Bool.not_false, Bool.false_eq_true, Bool.or_false, Bool.or_true, Nat.reduceAdd, Nat.reduceSub, Nat.zero_add, decide_true, decide_false, Bool.true_and, Bool.false_and, Bool.and_true, Bool.and_false, lTub]
    | _ :: _ :: _ :: _ :: r => simp [bodyX, runM, seqS, frzS, frzs, frz1, retF, retS, ifS, skipS, andE, orE, notE, ifE, valF, vE, vV, kE, kV', callF, ar_nil, ar_cons, dn_fz, dn_ow, dn_bag, dn_scr, d_fz, d_ow, b_of, isiF, isD, blF, cmpF, chainF, orElse, lenS, bltF1, notT, andT, orT, tstF, l_list, l_tuple, l_all, l_listL, l_listT, l_tupL, l_tupT, l_abs, c_lt, c_le, c_gt, c_ge, c_eqI, c_neI, c_inS, c_niS, i_list, i_tuple, i_str, x_list, x_tuple, plainF, ixF, ixS, asgF, unpF, unF, setAll, List.length_cons, List.length_nil, List.map_cons, List.map_nil, if_true, if_false, List.cons_append, List.nil_append, List.append_nil, List.getElem?_cons_zero, List.getElem?_cons_succ, List.replicate, List.set_cons_zero, List.set_cons_succ, Option.bind_some, Option.map_some, Option.bind_none, Option.map_none, Bool.not_true, Bool.not_false, Bool.false_eq_true, Bool.or_false, Bool.or_true, Nat.reduceAdd, Nat.reduceSub, Nat.zero_add, decide_true, decide_false, Bool.true_and, Bool.false_and, Bool.and_true, Bool.and_false, len3 r, lTub]
    | [a, b, c] =>
      have x0 : atI [a, b, c] 0 = some a := rfl
      have x1 : atI [a, b, c] 1 = some b := rfl
      have x2 : atI [a, b, c] 2 = some c := rfl
      have e3 : (((3 : Nat) : Int) == 3) = true := rfl
      have ga := (gd_tup h).2 a (by simp)
      cases h1 : isNm a with
      | false =>
        have : lTub ns (.tuple [a, b, c]) = false := by
          cases a <;> cases c <;> simp [lTub, h1]
        rw [this]
        simp only [bodyX, runM, seqS, frzS, frzs, frz1, retF, retS, ifS, skipS, andE, orE, notE, ifE, valF, vE, vV, kE, kV', callF, ar_nil, ar_cons, dn_fz, dn_ow, dn_bag, dn_scr, d_fz, d_ow, b_of, isiF, isD, blF, cmpF, chainF, orElse, lenS, bltF1, notT, andT, orT, tstF, l_list, l_tuple, l_all, l_listL, l_listT, l_tupL, l_tupT, l_abs, c_lt, c_le, c_gt, c_ge, c_eqI, c_neI, c_inS, c_niS, i_list, i_tuple, i_str, x_list, x_tuple, plainF, ixF, ixS, asgF, unpF, unF, setAll, List.length_cons, List.length_nil, List.map_cons, List.map_nil, if_true, if_false, List.cons_append, List.nil_append, List.append_nil, List.getElem?_cons_zero, List.getElem?_cons_succ, List.replicate, List.set_cons_zero, List.set_cons_succ, Option.bind_some, Option.map_some, Option.bind_none, Option.map_none, Bool.not_true, Bool.not_false, Bool.false_eq_true, Bool.or_false, Bool.or_true, Nat.reduceAdd, Nat.reduceSub, Nat.zero_add, decide_true, decide_false, Bool.true_and, Bool.false_and, Bool.and_true, Bool.and_false, e3, x0, hi a ga, h1]
      | true =>
        cases h2 : within b 1 1000 with
        | false =>
          have : lTub ns (.tuple [a, b, c]) = false := by
            cases a <;> cases c <;> simp [lTub, h2]
          rw [this]
          simp only [bodyX, runM, seqS, frzS, frzs, frz1, retF, retS, ifS, skipS, andE, orE, notE, ifE, valF, vE, vV, kE, kV', callF, ar_nil, ar_cons, dn_fz, dn_ow, dn_bag, dn_scr, d_fz, d_ow, b_of, isiF, isD, blF, cmpF, chainF, orElse, lenS, bltF1, notT, andT, orT, tstF, l_list, l_tuple, l_all, l_listL, l_listT, l_tupL, l_tupT, l_abs, c_lt, c_le, c_gt, c_ge, c_eqI, c_neI, c_inS, c_niS, i_list, i_tuple, i_str, x_list, x_tuple, plainF, ixF, ixS, asgF, unpF, unF, setAll, List.length_cons, List.length_nil, List.map_cons, List.map_nil, if_true, if_false, List.cons_append, List.nil_append, List.append_nil, List.getElem?_cons_zero, List.getElem?_cons_succ, List.replicate, List.set_cons_zero, List.set_cons_succ, Option.bind_some, Option.map_some, Option.bind_none, Option.map_none, Bool.not_true, Bool.not_false, Bool.false_eq_true, Bool.or_false, Bool.or_true, Nat.reduceAdd, Nat.reduceSub, Nat.zero_add, decide_true, decide_false, Bool.true_and, Bool.false_and, Bool.and_true, Bool.and_false, e3, x0, x1, hi a ga, h1, hw, h2]
        | true =>
          cases a with
          | str n =>
            have hz := (gd_str ga).2
            have c1 := hc n hz
            cases c with
            | tuple hs =>
              have lc : decide ((hs.length : Int) > 3) = !decide (hs.length ≤ 3) := by rw [Bool.eq_iff_iff]; simp; omega
              cases h3 : decide (hs.length ≤ 3) with
              | false =>
                rw [h3] at lc
                have : lTub ns (.tuple [.str n, b, .tuple hs]) = false := by simp only [lTub, h3, Bool.false_and, Bool.and_false]
                rw [this]
                simp only [bodyX, runM, seqS, frzS, frzs, frz1, retF, retS, ifS, skipS, andE, orE, notE, ifE, valF, vE, vV, kE, kV', callF, ar_nil, ar_cons, dn_fz, dn_ow, dn_bag, dn_scr, d_fz, d_ow, b_of, isiF, isD, blF, cmpF, chainF, orElse, lenS, bltF1, notT, andT, orT, tstF, l_list, l_tuple, l_all, l_listL, l_listT, l_tupL, l_tupT, l_abs, c_lt, c_le, c_gt, c_ge, c_eqI, c_neI, c_inS, c_niS, i_list, i_tuple, i_str, x_list, x_tuple, plainF, ixF, ixS, asgF, unpF, unF, setAll, List.length_cons, List.length_nil, List.map_cons, List.map_nil, if_true, if_false, List.cons_append, List.nil_append, List.append_nil, List.getElem?_cons_zero, List.getElem?_cons_succ, List.replicate, List.set_cons_zero, List.set_cons_succ, Option.bind_some, Option.map_some, Option.bind_none, Option.map_none, Bool.not_true, Bool.not_false, Bool.false_eq_true, Bool.or_false, Bool.or_true, Nat.reduceAdd, Nat.reduceSub, Nat.zero_add, decide_true, decide_false, Bool.true_and, Bool.false_and, Bool.and_true, Bool.and_false, e3, x0, x1, x2, hi _ ga, h1, hw, h2, lc]
              | true =>
                rw [h3] at lc
                cases h4 : hasS ns n with
                | true =>
                  rw [h4] at c1
                  have : lTub ns (.tuple [.str n, b, .tuple hs]) = false := by simp only [lTub, h4, Bool.not_true, Bool.and_false]
                  rw [this]
                  simp only [bodyX, runM, seqS, frzS, frzs, frz1, retF, retS, ifS, skipS, andE, orE, notE, ifE, valF, vE, vV, kE, kV', callF, ar_nil, ar_cons, dn_fz, dn_ow, dn_bag, dn_scr, d_fz, d_ow, b_of, isiF, isD, blF, cmpF, chainF, orElse, lenS, bltF1, notT, andT, orT, tstF, l_list, l_tuple, l_all, l_listL, l_listT, l_tupL, l_tupT, l_abs, c_lt, c_le, c_gt, c_ge, c_eqI, c_neI, c_inS, c_niS, i_list, i_tuple, i_str, x_list, x_tuple, plainF, ixF, ixS, asgF, unpF, unF, setAll, List.length_cons, List.length_nil, List.map_cons, List.map_nil, if_true, if_false, List.cons_append, List.nil_append, List.append_nil, List.getElem?_cons_zero, List.getElem?_cons_succ, List.replicate, List.set_cons_zero, List.set_cons_succ, Option.bind_some, Option.map_some, Option.bind_none, Option.map_none, Bool.not_true, Bool.not_false, Bool.false_eq_true, Bool.or_false, Bool.or_true, Nat.reduceAdd, Nat.reduceSub, Nat.zero_add, decide_true, decide_false, Bool.true_and, Bool.false_and, Bool.and_true, Bool.and_false, e3, x0, x1, x2, hi _ ga, h1, hw, h2, lc, c1]
                | false =>
                  rw [h4] at c1
                  have : lTub ns (.tuple [.str n, b, .tuple hs]) = true := by simp only [lTub, h1, h2, h3, h4, Bool.not_false, Bool.and_true]
                  rw [this]
                  simp only [bodyX, runM, seqS, frzS, frzs, frz1, retF, retS, ifS, skipS, andE, orE, notE, ifE, valF, vE, vV, kE, kV', callF, ar_nil, ar_cons, dn_fz, dn_ow, dn_bag, dn_scr, d_fz, d_ow, b_of, isiF, isD, blF, cmpF, chainF, orElse, lenS, bltF1, notT, andT, orT, tstF, l_list, l_tuple, l_all, l_listL, l_listT, l_tupL, l_tupT, l_abs, c_lt, c_le, c_gt, c_ge, c_eqI, c_neI, c_inS, c_niS, i_list, i_tuple, i_str, x_list, x_tuple, plainF, ixF, ixS, asgF, unpF, unF, setAll, List.length_cons, List.length_nil, List.map_cons, List.map_nil, if_true, if_false, List.cons_append, List.nil_append, List.append_nil, List.getElem?_cons_zero, List.getElem?_cons_succ, List.replicate, List.set_cons_zero, List.set_cons_succ, Option.bind_some, Option.map_some, Option.bind_none, Option.map_none, Bool.not_true, Bool.not_false, Bool.false_eq_true, Bool.or_false, Bool.or_true, Nat.reduceAdd, Nat.reduceSub, Nat.zero_add, decide_true, decide_false, Bool.true_and, Bool.false_and, Bool.and_true, Bool.and_false, e3, x0, x1, x2, hi _ ga, h1, hw, h2, lc, c1, appS, hsz, nm]
            | _ => simp only [bodyX, runM, seqS, frzS, frzs, frz1, retF, retS, ifS, skipS, andE, orE, notE, ifE, valF, vE, vV, kE, kV', callF, ar_nil, ar_cons, dn_fz, dn_ow, dn_bag, dn_scr, d_fz, d_ow, b_of, isiF, isD, blF, cmpF, chainF, orElse, lenS, bltF1, notT, andT, orT, tstF, l_list, l_tuple, l_all, l_listL, l_listT, l_tupL, l_tupT, l_abs, c_lt, c_le, c_gt, c_ge, c_eqI, c_neI, c_inS, c_niS, i_list, i_tuple, i_str, x_list, x_tuple, plainF, ixF, ixS, asgF, unpF, unF, setAll, List.length_cons, List.length_nil, List.map_cons, List.map_nil, if_true, if_false, List.cons_append, List.nil_append, List.append_nil, List.getElem?_cons_zero, List.getElem?_cons_succ, List.replicate, List.set_cons_zero, List.set_cons_succ, Option.bind_some, Option.map_some, Option.bind_none, Option.map_none, Bool.not_true, Bool.not_false, Bool.false_eq_true, Bool.or_false, Bool.or_true, Nat.reduceAdd, Nat.reduceSub, Nat.zero_add, decide_true, decide_false, Bool.true_and, Bool.false_and, Bool.and_true, Bool.and_false, e3, x0, x1, x2, hi _ ga, h1, hw, h2, lTub]
          | _ => simp [isNm] at h1
  | _ => rfl
end K01

set_option maxHeartbeats 4000000
namespace K01
open PySem PySem.Spec PyProof.Rows L2 Iv
variable {k : Nat} {st : BSt}
def lNames : List Str → List D → Bool
  | _, [] => true
  | ns, d :: ds => lTub ns d && lNames (ns ++ [nm d]) ds
theorem lTub_shape {ns : List Str} {d : D} (h : lTub ns d = true) : ∃ (n : Str) (g : D) (hs : List D), d = .tuple [.str n, g, .tuple hs] ∧ hs.length ≤ 3 := by
  unfold lTub at h
  split at h
  · simp only [Bool.and_eq_true, decide_eq_true_eq] at h
    exact ⟨_, _, _, rfl, h.2.2.1⟩
  · cases h
theorem lNames_shape : ∀ {ds : List D} {ns : List Str}, lNames ns ds = true → ∀ d ∈ ds, ∃ (n : Str) (g : D) (hs : List D), d = .tuple [.str n, g, .tuple hs] ∧ hs.length ≤ 3
  | d :: ds, ns, h, x, hx => by
    simp only [lNames, Bool.and_eq_true] at h
    rcases List.mem_cons.mp hx with rfl | hx
    · exact lTub_shape h.1
    · exact lNames_shape h.2 x hx
theorem forL_names (A : Option R) (T : Env') : ∀ (ds : List D) (ns : List Str) (z : Option R), (∀ d ∈ ds, gd d = true) → (∀ x ∈ ns, PyData.strOk x = true) → ns.length + ds.length ≤ 1000 → ∃ n' z', forL (setF 2) (bodyX k) ds (A :: some (.ow (.list (ns.map PyData.str))) :: z :: T) st = if lNames ns ds then some (.nx, A :: some (.ow (.list ((ns ++ ds.map nm).map PyData.str))) :: z' :: T, st) else some (.rt (.fz (.bool false)), A :: n' :: z' :: T, st)
  | [], ns, z, _, _, _ => ⟨none, z, by simp [forL, lNames, skipS]⟩
  | d :: ds, ns, z, hg, hns, hn => by
    have hn' : ns.length + (ds.length + 1) ≤ 1000 := hn
    have h1 := bodyX_ok (k := k) (st := st) A T ns d (hg d List.mem_cons_self) hns (by omega)
    cases hp : lTub ns d with
    | true =>
      rw [hp, if_pos rfl] at h1
      have ok : PyData.strOk (nm d) = true := by
        obtain ⟨n, g, hs, rfl, _⟩ := lTub_shape hp
        exact (gd_str ((gd_tup (hg _ List.mem_cons_self)).2 (.str n) (by simp))).2
      obtain ⟨n', z', ih⟩ := forL_names A T ds (ns ++ [nm d]) (some (.fz d)) (fun y hy => hg y (List.mem_cons_of_mem _ hy)) (fun x hx => by
        rcases List.mem_append.mp hx with hx | hx
        · exact hns x hx
        · rw [List.mem_singleton.mp hx]; exact ok) (by rw [List.length_append]; simp; omega)
      refine ⟨n', z', ?_⟩
      have e : ns ++ [nm d] ++ ds.map nm = ns ++ (d :: ds).map nm := by simp
      rw [e] at ih
      simp only [forL, setF, Option.bind_some, List.set_cons_succ, List.set_cons_zero, h1, ih, lNames, hp, Bool.true_and]
    | false =>
      rw [hp, if_neg (by simp)] at h1
      refine ⟨some (.ow (.list (ns.map PyData.str))), some (.fz d), ?_⟩
      simp only [forL, setF, Option.bind_some, List.set_cons_succ, List.set_cons_zero, h1, lNames, hp, Bool.false_and, Bool.false_eq_true, if_false]
/-! ### plain mathematics: the law's way of telling tubs is the program's -/
def secE (names : List Str) : D → Bool
  | .tuple [.int i, d] => (hol d).all (lHole (names.drop (i.toNat + 1))) && risingI ((hol d).map hgt)
  | _ => false
theorem hole_eq {later : List Str} (hl : ∀ x ∈ later, isNm (.str x) = true) (d : D) : (isHl d && goes later d) = lHole later d := by
  unfold lHole
  split
  · rename_i h r z
    have hz : hasS later z = true → isNm (.str z) = true := fun h => by
      obtain ⟨x, hx, e⟩ := List.any_eq_true.mp h
      rw [← eq_of_beq e]
      exact hl x hx
    simp only [isHl, goes, isWy]
    cases within h 0 1000 <;> cases within r 1 100 <;> simp
    cases h1 : hasS later z with
    | true => simp [hz h1]
    | false =>
      by_cases e : z = "" <;> simp [e]
  · rename_i ne
    cases h1 : isHl d with
    | false => rfl
    | true =>
      obtain ⟨a, b, z, rfl⟩ := isHl_shape3 h1
      exact absurd rfl (ne _ _ _)
theorem holes_eq {later : List Str} (hl : ∀ x ∈ later, isNm (.str x) = true) : ∀ hs : List D, (hs.all isHl && hs.all (goes later)) = hs.all (lHole later)
  | [] => rfl
  | d :: hs => by
    rw [List.all_cons, List.all_cons, List.all_cons, ← holes_eq hl hs, ← hole_eq hl d]
    cases isHl d <;> cases goes later d <;> simp
theorem tub_eq {pre later : List Str} (hl : ∀ x ∈ later, isNm (.str x) = true) (d : D) : (isTb d && fits (nm d) (hol d) pre later) = (lTub pre d && ((hol d).all (lHole later) && risingI ((hol d).map hgt))) := by
  unfold lTub
  split
  · rename_i n g hs
    simp only [isTb, arHl, fits, nm, hol, ← holes_eq hl hs]
    cases isNm (.str n) <;> cases within g 1 1000 <;> cases decide (hs.length ≤ 3) <;> cases hasS pre n <;> cases hs.all isHl <;> cases hs.all (goes later) <;> cases risingI (hs.map hgt) <;> rfl
  · rename_i ne
    cases h1 : isTb d with
    | false => rfl
    | true =>
      obtain ⟨n, g, hs, rfl, _⟩ := isTb_shape h1
      exact absurd rfl (ne _ _ _)
theorem isTb_nm {d : D} (h : isTb d = true) : isNm (.str (nm d)) = true := by
  obtain ⟨n, g, hs, rfl, _⟩ := isTb_shape h
  simp only [isTb, Bool.and_eq_true] at h
  exact h.1
theorem tubs_eq : ∀ (ds : List D) (pre : List Str), (ds.all isTb && (enumD pre.length ds).all (fitE (pre ++ ds.map nm))) = (lNames pre ds && (enumD pre.length ds).all (secE (pre ++ ds.map nm)))
  | [], pre => rfl
  | d :: ds, pre => by
    have ih := tubs_eq ds (pre ++ [nm d])
    have e : pre ++ [nm d] ++ ds.map nm = pre ++ (d :: ds).map nm := by simp
    have el : (pre ++ [nm d]).length = pre.length + 1 := by simp
    rw [e, el] at ih
    have t1 : (pre ++ (d :: ds).map nm).take pre.length = pre := by simp
    have t2 : (pre ++ (d :: ds).map nm).drop (pre.length + 1) = ds.map nm := by rw [← e, ← el, List.drop_left]
    have f1 : fitE (pre ++ (d :: ds).map nm) (.tuple [.int (pre.length : Nat), d]) = fits (nm d) (hol d) pre (ds.map nm) := by
      simp only [fitE, Int.toNat_natCast, t1, t2]
    have f2 : secE (pre ++ (d :: ds).map nm) (.tuple [.int (pre.length : Nat), d]) = ((hol d).all (lHole (ds.map nm)) && risingI ((hol d).map hgt)) := by
      simp only [secE, Int.toNat_natCast, t2]
    show (ds.all isTb |> fun r => (isTb d && r) && (fitE (pre ++ (d :: ds).map nm) (.tuple [.int (pre.length : Nat), d]) && (enumD (pre.length + 1) ds).all (fitE (pre ++ (d :: ds).map nm)))) = ((lTub pre d && lNames (pre ++ [nm d]) ds) && (secE (pre ++ (d :: ds).map nm) (.tuple [.int (pre.length : Nat), d]) && (enumD (pre.length + 1) ds).all (secE (pre ++ (d :: ds).map nm))))
    rw [f1, f2]
    have s1 : ∀ a b c d : Bool, ((a && b) && (c && d)) = ((a && c) && (b && d)) := by decide
    show ((isTb d && ds.all isTb) && (fits (nm d) (hol d) pre (ds.map nm) && _)) = _
    rw [s1, s1 (lTub pre d), ih]
    cases hr : (lNames (pre ++ [nm d]) ds && (enumD (pre.length + 1) ds).all (secE (pre ++ (d :: ds).map nm))) with
    | false => rw [Bool.and_false, Bool.and_false]
    | true =>
      rw [hr] at ih
      have ha := List.all_eq_true.mp (Bool.and_eq_true_iff.mp ih).1
      rw [tub_eq fun x hx => by
        obtain ⟨y, hy, rfl⟩ := List.mem_map.mp hx
        exact isTb_nm (ha y hy)]
end K01

set_option maxHeartbeats 4000000
namespace K01
open PySem PySem.Spec PyProof.Rows L2 Iv
variable {k : Nat} {st : BSt}
noncomputable def bodyY (k : Nat) : SF := (seqS (frzS [] (ifS (cmpF .NotEq (valF (lcF (plainF (orElse (ixS 2 (valF (kE (.int 2)))) (ixF (vV 2) (valF (kE (.int 2)))))) [4] (setF 4) (notT (tstF (valF (callF (tbl.F whR 60 (k + 2)) "_law_is_hole" (argsF [(vE 4), (slF (vV 1) (partF (some (valF (binF .Add (vV 3) (valF (kE (.int 1))))))) (partF none))]))))) (vE 4))) (valF (lstF (argsF [])))) (seqS (frzS [] (retF (kE (.bool false))))
    skipS) skipS))
    (seqS (frzS [] (asgF 5 (lcF (plainF (orElse (ixS 2 (valF (kE (.int 2)))) (ixF (vV 2) (valF (kE (.int 2)))))) [4] (setF 4) yesT (orElse (ixS 4 (valF (kE (.int 0)))) (ixF (vV 4) (valF (kE (.int 0))))))))
    (seqS (frzS [] (ifS (cmpF .NotEq (vV 5) (valF (ssF (vV 5)))) (seqS (frzS [] (retF (kE (.bool false))))
    skipS) skipS))
    skipS)))
theorem lHole_shape {later : List Str} {d : D} (h : lHole later d = true) : ∃ (a : Int) (b c : D), d = .tuple [.int a, b, c] := by
  unfold lHole at h
  split at h
  · rename_i x r z
    cases x <;> simp [within] at h
    exact ⟨_, _, _, rfl⟩
  · cases h
theorem bodyY_ok (A z4 z5 : Option R) (ns : List Str) (i : Nat) (n : Str) (g : D) (hs : List D) (hg : gd (.tuple hs) = true) (hd : (PyData.tuple hs).depth ≤ 60) (hl : hs.length ≤ 3) (hns : ∀ x ∈ ns, PyData.strOk x = true) (hn : ns.length ≤ 1000) :
    ∃ z', bodyY k [A, some (.ow (.list (ns.map PyData.str))), some (.fz (.tuple [.str n, g, .tuple hs])), some (.fz (.int (i : Nat))), z4, z5] st = if hs.all (lHole (ns.drop (i + 1))) && risingI (hs.map hgt) then some (.nx, [A, some (.ow (.list (ns.map PyData.str))), some (.fz (.tuple [.str n, g, .tuple hs])), some (.fz (.int (i : Nat))), z4, z'], st) else some (.rt (.fz (.bool false)), [A, some (.ow (.list (ns.map PyData.str))), some (.fz (.tuple [.str n, g, .tuple hs])), some (.fz (.int (i : Nat))), z4, z'], st) := by
  have hh := fun d h => f_law_is_hole (k := k) (st := st) d (ns.drop (i + 1)) h (fun x hx => hns x (List.mem_of_mem_drop hx)) (by rw [List.length_drop]; omega)
  unfold FF at hh
  obtain ⟨hz, hgm⟩ := gd_tup hg
  have dp := dep_tup hd
  have c2 : cutL (ns.map PyData.str) (some ((i : Int) + 1)) none = (ns.drop (i + 1)).map PyData.str := by
    have := cut_drop (ns.map PyData.str) (i + 1)
    rw [List.map_drop]
    exact this
  have b1 : binD .Add (.int (i : Int)) (.int 1) = some (.fz (.int ((i : Int) + 1))) := rfl
  generalize ns.drop (i + 1) = later at hh c2
  generalize later.map PyData.str = ld at hh c2
  generalize ns.map PyData.str = nd at c2
  have x2 : atI [PyData.str n, g, .tuple hs] 2 = some (.tuple hs) := rfl
  have l1 : lcF (plainF (orElse (ixS 2 (valF (kE (.int 2)))) (ixF (vV 2) (valF (kE (.int 2)))))) [4] (setF 4) (notT (tstF (valF (callF (tbl.F whR 60 (k + 2)) "_law_is_hole" (argsF [(vE 4), (slF (vV 1) (partF (some (valF (binF .Add (vV 3) (valF (kE (.int 1))))))) (partF none))]))))) (vE 4) [A, some (.ow (.list nd)), some (.fz (.tuple [.str n, g, .tuple hs])), some (.fz (.int (i : Nat))), z4, z5] st = some (.ow (.list (hs.filter fun d => !lHole later d)), st) :=
    lcF_filter _ rfl (fun d hd => ⟨_, rfl, by simp only [wipeE, slF, partF, binF, b1, y_list, c2, runM, seqS, frzS, frzs, frz1, retF, retS, ifS, skipS, andE, orE, notE, ifE, valF, vE, vV, kE, kV', callF, ar_nil, ar_cons, dn_fz, dn_ow, dn_bag, dn_scr, d_fz, d_ow, b_of, isiF, isD, blF, cmpF, chainF, orElse, lenS, bltF1, notT, andT, orT, tstF, l_list, l_tuple, l_all, l_listL, l_listT, l_tupL, l_tupT, l_abs, c_lt, c_le, c_gt, c_ge, c_eqI, c_neI, c_inS, c_niS, i_list, i_tuple, i_str, x_list, x_tuple, plainF, ixF, ixS, asgF, unpF, unF, setAll, List.length_cons, List.length_nil, List.map_cons, List.map_nil, if_true, if_false, List.cons_append, List.nil_append, List.append_nil, List.getElem?_cons_zero, List.getElem?_cons_succ, List.replicate, List.set_cons_zero, List.set_cons_succ, Option.bind_some, Option.map_some, Option.bind_none, Option.map_none, Bool.not_true, Bool.not_false, Bool.false_eq_true, Bool.or_false, Bool.or_true, Nat.reduceAdd, Nat.reduceSub, Nat.zero_add, decide_true, decide_false, Bool.true_and, Bool.false_and, Bool.and_true, Bool.and_false, hh d (hgm d hd)], _, rfl, rfl⟩) hz
  have c1 := c_neE (ds := hs.filter fun d => !lHole later d) (fun d hd => hgm d ((List.mem_filter.mp hd).1)) (fun d hd => dp d ((List.mem_filter.mp hd).1))
  rw [fil_empty] at c1
  simp only [Bool.not_not] at c1
  generalize hs.filter (fun d => !lHole later d) = fd at l1 c1
  have ln : lstF (argsF []) [A, some (.ow (.list nd)), some (.fz (.tuple [.str n, g, .tuple hs])), some (.fz (.int (i : Nat))), z4, z5] st = some (.ow (.list []), st) := rfl
  cases ha : hs.all (lHole later) with
  | false =>
    have c1' : cmpD .NotEq (.list fd) (.list []) = some (!false) := by rw [← ha]; exact c1
    refine ⟨z5, ?_⟩
    simp only [bodyY, runM, seqS, frzS, frzs, frz1, retF, retS, ifS, skipS, andE, orE, notE, ifE, valF, vE, vV, kE, kV', callF, ar_nil, ar_cons, dn_fz, dn_ow, dn_bag, dn_scr, d_fz, d_ow, b_of, isiF, isD, blF, cmpF, chainF, orElse, lenS, bltF1, notT, andT, orT, tstF, l_list, l_tuple, l_all, l_listL, l_listT, l_tupL, l_tupT, l_abs, c_lt, c_le, c_gt, c_ge, c_eqI, c_neI, c_inS, c_niS, i_list, i_tuple, i_str, x_list, x_tuple, plainF, ixF, ixS, asgF, unpF, unF, setAll, List.length_cons, List.length_nil, List.map_cons, List.map_nil, if_true, if_false, List.cons_append, List.nil_append, List.append_nil, List.getElem?_cons_zero, List.getElem?_cons_succ, List.replicate, List.set_cons_zero, List.set_cons_succ, Option.bind_some, Option.map_some, Option.bind_none, Option.map_none, Bool.not_true, Bool.not_false, Bool.false_eq_true, Bool.or_false, Bool.or_true, Nat.reduceAdd, Nat.reduceSub, Nat.zero_add, decide_true, decide_false, Bool.true_and, Bool.false_and, Bool.and_true, Bool.and_false, l1, c1', ln]
  | true =>
    have c1' : cmpD .NotEq (.list fd) (.list []) = some (!true) := by rw [← ha]; exact c1
    have hm := List.all_eq_true.mp ha
    have l2 : lcF (plainF (orElse (ixS 2 (valF (kE (.int 2)))) (ixF (vV 2) (valF (kE (.int 2)))))) [4] (setF 4) yesT (orElse (ixS 4 (valF (kE (.int 0)))) (ixF (vV 4) (valF (kE (.int 0))))) [A, some (.ow (.list nd)), some (.fz (.tuple [.str n, g, .tuple hs])), some (.fz (.int (i : Nat))), z4, z5] st = some (.ow (.list (hs.map fun d => .int (hgt d))), st) :=
      lcF_map _ rfl (fun d hd => by
        obtain ⟨x, y, z, rfl⟩ := lHole_shape (hm d hd)
        exact ⟨_, _, rfl, rfl, rfl⟩) hz
    have e : (hs.map fun d => PyData.int (hgt d)) = (hs.map hgt).map PyData.int := by rw [List.map_map]; rfl
    rw [e] at l2
    have hn : (hs.map hgt).length < 64 := by rw [List.length_map]; omega
    have ur := usort_iff (hs.map hgt)
    rw [Bool.true_and, ← ur]
    refine ⟨some (.ow (.list ((hs.map hgt).map PyData.int))), ?_⟩
    generalize hs.map hgt = ls at l2 hn
    have sS := ss_ints (st := st) (f := vV 5) (env := [A, some (.ow (.list nd)), some (.fz (.tuple [.str n, g, .tuple hs])), some (.fz (.int (i : Nat))), z4, some (.ow (.list (ls.map PyData.int)))]) rfl hn
    have cE := c_neL ls (usort ls)
    generalize ls.map PyData.int = ld1 at l2 sS cE
    cases h0 : decide (ls = usort ls) with
    | false =>
      rw [h0] at cE
      simp only [bodyY, runM, seqS, frzS, frzs, frz1, retF, retS, ifS, skipS, andE, orE, notE, ifE, valF, vE, vV, kE, kV', callF, ar_nil, ar_cons, dn_fz, dn_ow, dn_bag, dn_scr, d_fz, d_ow, b_of, isiF, isD, blF, cmpF, chainF, orElse, lenS, bltF1, notT, andT, orT, tstF, l_list, l_tuple, l_all, l_listL, l_listT, l_tupL, l_tupT, l_abs, c_lt, c_le, c_gt, c_ge, c_eqI, c_neI, c_inS, c_niS, i_list, i_tuple, i_str, x_list, x_tuple, plainF, ixF, ixS, asgF, unpF, unF, setAll, List.length_cons, List.length_nil, List.map_cons, List.map_nil, if_true, if_false, List.cons_append, List.nil_append, List.append_nil, List.getElem?_cons_zero, List.getElem?_cons_succ, List.replicate, List.set_cons_zero, List.set_cons_succ, Option.bind_some, Option.map_some, Option.bind_none, Option.map_none, Bool.not_true, Bool.not_false, Bool.false_eq_true, Bool.or_false, Bool.or_true, Nat.reduceAdd, Nat.reduceSub, Nat.zero_add, decide_true, decide_false, Bool.true_and, Bool.false_and, Bool.and_true, Bool.and_false, l1, c1', ln, l2, sS, cE]
    | true =>
      rw [h0] at cE
      simp only [bodyY, runM, seqS, frzS, frzs, frz1, retF, retS, ifS, skipS, andE, orE, notE, ifE, valF, vE, vV, kE, kV', callF, ar_nil, ar_cons, dn_fz, dn_ow, dn_bag, dn_scr, d_fz, d_ow, b_of, isiF, isD, blF, cmpF, chainF, orElse, lenS, bltF1, notT, andT, orT, tstF, l_list, l_tuple, l_all, l_listL, l_listT, l_tupL, l_tupT, l_abs, c_lt, c_le, c_gt, c_ge, c_eqI, c_neI, c_inS, c_niS, i_list, i_tuple, i_str, x_list, x_tuple, plainF, ixF, ixS, asgF, unpF, unF, setAll, List.length_cons, List.length_nil, List.map_cons, List.map_nil, if_true, if_false, List.cons_append, List.nil_append, List.append_nil, List.getElem?_cons_zero, List.getElem?_cons_succ, List.replicate, List.set_cons_zero, List.set_cons_succ, Option.bind_some, Option.map_some, Option.bind_none, Option.map_none, Bool.not_true, Bool.not_false, Bool.false_eq_true, Bool.or_false, Bool.or_true, Nat.reduceAdd, Nat.reduceSub, Nat.zero_add, decide_true, decide_false, Bool.true_and, Bool.false_and, Bool.and_true, Bool.and_false, l1, c1', ln, l2, sS, cE]
theorem forL_secs (A : Option R) (ns : List Str) (hns : ∀ x ∈ ns, PyData.strOk x = true) (hn : ns.length ≤ 1000) : ∀ (ds : List D) (m : Nat) (z2 z3 z4 z5 : Option R), (∀ d ∈ ds, gd d = true) → (∀ d ∈ ds, d.depth ≤ 60) → (∀ d ∈ ds, ∃ (n : Str) (g : D) (hs : List D), d = .tuple [.str n, g, .tuple hs] ∧ hs.length ≤ 3) →
    ∃ y2 y3 y5, forL (unF [3, 2]) (bodyY k) (enumD m ds) [A, some (.ow (.list (ns.map PyData.str))), z2, z3, z4, z5] st = if (enumD m ds).all (secE ns) then some (.nx, [A, some (.ow (.list (ns.map PyData.str))), y2, y3, z4, y5], st) else some (.rt (.fz (.bool false)), [A, some (.ow (.list (ns.map PyData.str))), y2, y3, z4, y5], st)
  | [], m, z2, z3, z4, z5, _, _, _ => ⟨z2, z3, z5, rfl⟩
  | d :: ds, m, z2, z3, z4, z5, hg, hd, hs => by
    obtain ⟨n, g, hs', rfl, hl⟩ := hs d List.mem_cons_self
    have g1 := (gd_tup (hg _ List.mem_cons_self)).2 (.tuple hs') (by simp)
    have d1 := dep_tup (hd _ List.mem_cons_self) (.tuple hs') (by simp)
    obtain ⟨z', h1⟩ := bodyY_ok (k := k) (st := st) A z4 z5 ns m n g hs' g1 d1 hl hns hn
    have fs : secE ns (.tuple [.int (m : Nat), .tuple [.str n, g, .tuple hs']]) = (hs'.all (lHole (ns.drop (m + 1))) && risingI (hs'.map hgt)) := by
      simp only [secE, hol, Int.toNat_natCast]
    rw [← fs] at h1
    cases hp : secE ns (.tuple [.int (m : Nat), .tuple [.str n, g, .tuple hs']]) with
    | true =>
      rw [hp, if_pos rfl] at h1
      obtain ⟨y2, y3, y5, ih⟩ := forL_secs A ns hns hn ds (m + 1) (some (.fz (.tuple [.str n, g, .tuple hs']))) (some (.fz (.int (m : Nat)))) z4 z' (fun y hy => hg y (List.mem_cons_of_mem _ hy)) (fun y hy => hd y (List.mem_cons_of_mem _ hy)) (fun y hy => hs y (List.mem_cons_of_mem _ hy))
      refine ⟨y2, y3, y5, ?_⟩
      simp only [enumD, forL, unF, setAll, Option.bind_some, List.set_cons_succ, List.set_cons_zero, h1, ih, List.all_cons, hp, Bool.true_and]
    | false =>
      rw [hp, if_neg (by simp)] at h1
      refine ⟨some (.fz (.tuple [.str n, g, .tuple hs'])), some (.fz (.int (m : Nat))), z', ?_⟩
      simp only [enumD, forL, unF, setAll, Option.bind_some, List.set_cons_succ, List.set_cons_zero, h1, List.all_cons, hp, Bool.false_and, Bool.false_eq_true, if_false]
theorem f_law_are_tubs (d : D) (h : gd d = true) (hd : d.depth ≤ 60) : FF (k + 3) "_law_are_tubs" [.fz d] st = some (.fz (.bool (arTb d)), st) := by
  unfold FF
  rw [e__law_are_tubs]
  cases d with
  | tuple ds =>
    obtain ⟨hl, hg⟩ := gd_tup h
    have dp := dep_tup hd
    have lc : decide ((1 : Int) ≤ (ds.length : Int)) = decide (1 ≤ ds.length) := by rw [Bool.eq_iff_iff]; simp; omega
    have lc2 : decide ((ds.length : Int) ≤ 3) = decide (ds.length ≤ 3) := by rw [Bool.eq_iff_iff]; simp; omega
    cases c1 : decide (1 ≤ ds.length) with
    | false =>
      rw [c1] at lc
      simp only [m__law_are_tubs, runM, seqS, frzS, frzs, frz1, retF, retS, ifS, skipS, andE, orE, notE, ifE, valF, vE, vV, kE, kV', callF, ar_nil, ar_cons, dn_fz, dn_ow, dn_bag, dn_scr, d_fz, d_ow, b_of, isiF, isD, blF, cmpF, chainF, orElse, lenS, bltF1, notT, andT, orT, tstF, l_list, l_tuple, l_all, l_listL, l_listT, l_tupL, l_tupT, l_abs, c_lt, c_le, c_gt, c_ge, c_eqI, c_neI, c_inS, c_niS, i_list, i_tuple, i_str, x_list, x_tuple, plainF, ixF, ixS, asgF, unpF, unF, setAll, List.length_cons, List.length_nil, List.map_cons, List.map_nil, if_true, if_false, List.cons_append, List.nil_append, List.append_nil, List.getElem?_cons_zero, List.getElem?_cons_succ, List.replicate, List.set_cons_zero, List.set_cons_succ, Option.bind_some, Option.map_some, Option.bind_none, Option.map_none, Bool.not_true, Bool.not_false, Bool.false_eq_true, Bool.or_false, Bool.or_true, Nat.reduceAdd, Nat.reduceSub, Nat.zero_add, decide_true, decide_false, Bool.true_and, Bool.false_and, Bool.and_true, Bool.and_false, lc, arTb, c1]
    | true =>
      cases c2 : decide (ds.length ≤ 3) with
      | false =>
        rw [c1] at lc
        rw [c2] at lc2
        simp only [m__law_are_tubs, runM, seqS, frzS, frzs, frz1, retF, retS, ifS, skipS, andE, orE, notE, ifE, valF, vE, vV, kE, kV', callF, ar_nil, ar_cons, dn_fz, dn_ow, dn_bag, dn_scr, d_fz, d_ow, b_of, isiF, isD, blF, cmpF, chainF, orElse, lenS, bltF1, notT, andT, orT, tstF, l_list, l_tuple, l_all, l_listL, l_listT, l_tupL, l_tupT, l_abs, c_lt, c_le, c_gt, c_ge, c_eqI, c_neI, c_inS, c_niS, i_list, i_tuple, i_str, x_list, x_tuple, plainF, ixF, ixS, asgF, unpF, unF, setAll, List.length_cons, List.length_nil, List.map_cons, List.map_nil, if_true, if_false, List.cons_append, List.nil_append, List.append_nil, List.getElem?_cons_zero, List.getElem?_cons_succ, List.replicate, List.set_cons_zero, List.set_cons_succ, Option.bind_some, Option.map_some, Option.bind_none, Option.map_none, Bool.not_true, Bool.not_false, Bool.false_eq_true, Bool.or_false, Bool.or_true, Nat.reduceAdd, Nat.reduceSub, Nat.zero_add, decide_true, decide_false, Bool.true_and, Bool.false_and, Bool.and_true, Bool.and_false, lc, lc2, arTb, c1, c2]
      | true =>
        rw [c1] at lc
        rw [c2] at lc2
        have n2 := of_decide_eq_true c2
        have te := tubs_eq ds []
        have fin : arTb (.tuple ds) = (lNames [] ds && (enumD 0 ds).all (secE (ds.map nm))) := by
          simp only [arTb, c1, c2, Bool.true_and]
          exact te
        rw [fin]
        obtain ⟨n', z', h1⟩ := forL_names (k := k) (st := st) (some (.fz (.tuple ds))) [none, none, none] ds [] none hg (fun x hx => by cases hx) (by simp; omega)
        have fo : frzS [0] (forF (plainF (vE 0)) (setF 2) (bodyX k)) [some (.fz (.tuple ds)), some (.ow (.list [])), none, none, none, none] st = if lNames [] ds then some (.nx, [some (.fz (.tuple ds)), some (.ow (.list ((ds.map nm).map PyData.str))), z', none, none, none], st) else some (.rt (.fz (.bool false)), [some (.fz (.tuple ds)), n', z', none, none, none], st) := h1
        have s1 : m__law_are_tubs whR (tbl.F whR 60 (k + 2)) [some (.fz (.tuple ds)), none, none, none, none, none] st = seqS (frzS [0] (forF (plainF (vE 0)) (setF 2) (bodyX k))) (seqS (frzS [0] (forF (enumF (vE 0)) (unF [3, 2]) (bodyY k))) (seqS (frzS [] (retF (kE (.bool true)))) skipS)) [some (.fz (.tuple ds)), some (.ow (.list [])), none, none, none, none] st := by
          unfold m__law_are_tubs
          rw [seq_nx (env1 := [some (.fz (.tuple ds)), none, none, none, none, none]) (st1 := st) (by simp only [runM, seqS, frzS, frzs, frz1, retF, retS, ifS, skipS, andE, orE, notE, ifE, valF, vE, vV, kE, kV', callF, ar_nil, ar_cons, dn_fz, dn_ow, dn_bag, dn_scr, d_fz, d_ow, b_of, isiF, isD, blF, cmpF, chainF, orElse, lenS, bltF1, notT, andT, orT, tstF, l_list, l_tuple, l_all, l_listL, l_listT, l_tupL, l_tupT, l_abs, c_lt, c_le, c_gt, c_ge, c_eqI, c_neI, c_inS, c_niS, i_list, i_tuple, i_str, x_list, x_tuple, plainF, ixF, ixS, asgF, unpF, unF, setAll, List.length_cons, List.length_nil, List.map_cons, List.map_nil, if_true, if_false, List.cons_append, List.nil_append, List.append_nil, List.getElem?_cons_zero, List.getElem?_cons_succ, List.replicate, List.set_cons_zero, List.set_cons_succ, Option.bind_some, Option.map_some, Option.bind_none, Option.map_none, Bool.not_true, Bool.not_false, Bool.false_eq_true, Bool.or_false, Bool.or_true, Nat.reduceAdd, Nat.reduceSub, Nat.zero_add, decide_true, decide_false, Bool.true_and, Bool.false_and, Bool.and_true, Bool.and_false, lc, lc2])]
          rfl
        cases ha : lNames [] ds with
        | false =>
          rw [ha] at fo
          exact run_rt (env1 := [some (.fz (.tuple ds)), n', z', none, none, none]) rfl (s1.trans (seq_rt fo))
        | true =>
          rw [ha] at fo
          have sh := lNames_shape ha
          have ok : ∀ x ∈ ds.map nm, PyData.strOk x = true := fun x hx => by
            obtain ⟨d, hd', rfl⟩ := List.mem_map.mp hx
            obtain ⟨n, g, hs, rfl, _⟩ := sh d hd'
            exact (gd_str ((gd_tup (hg _ hd')).2 (.str n) (by simp))).2
          obtain ⟨y2, y3, y5, h2⟩ := forL_secs (k := k) (st := st) (some (.fz (.tuple ds))) (ds.map nm) ok (by rw [List.length_map]; omega) ds 0 z' none none none hg dp sh
          have fo2 : frzS [0] (forF (enumF (vE 0)) (unF [3, 2]) (bodyY k)) [some (.fz (.tuple ds)), some (.ow (.list ((ds.map nm).map PyData.str))), z', none, none, none] st = if (enumD 0 ds).all (secE (ds.map nm)) then some (.nx, [some (.fz (.tuple ds)), some (.ow (.list ((ds.map nm).map PyData.str))), y2, y3, none, y5], st) else some (.rt (.fz (.bool false)), [some (.fz (.tuple ds)), some (.ow (.list ((ds.map nm).map PyData.str))), y2, y3, none, y5], st) := h2
          rw [Bool.true_and]
          cases hb : (enumD 0 ds).all (secE (ds.map nm)) with
          | false =>
            rw [hb] at fo2
            exact run_rt (env1 := [some (.fz (.tuple ds)), some (.ow (.list ((ds.map nm).map PyData.str))), y2, y3, none, y5]) rfl (s1.trans ((seq_nx fo).trans (seq_rt fo2)))
          | true =>
            rw [hb] at fo2
            exact run_rt (env1 := [some (.fz (.tuple ds)), some (.ow (.list ((ds.map nm).map PyData.str))), y2, y3, none, y5]) rfl (s1.trans ((seq_nx fo).trans ((seq_nx fo2).trans rfl)))
  | _ => rfl
end K01

set_option maxHeartbeats 4000000
namespace K01
open PySem PySem.Spec PyProof.Rows L2 Iv
variable {k : Nat}
/-! ### makers: the bag -/
def bgOk (s : Int × Int) : Prop := 0 ≤ s.2 ∧ s.2 < 2147483647
theorem d_mod {i j : Int} (h : 0 < j) : binD .Mod (.int i) (.int j) = some (.fz (.int (i % j))) := by
  show (if decide (0 < j) then _ else none) = _
  rw [decide_eq_true h]; rfl
theorem lg31 {x : Nat} (h : x < 2147483648) : x.log2 < 31 := by
  by_cases e : x = 0
  · subst e; decide
  · exact (Nat.log2_lt e).mpr h
theorem lg60 {x : Nat} (h : x < 1152921504606846976) : x.log2 < 60 := by
  by_cases e : x = 0
  · subst e; decide
  · exact (Nat.log2_lt e).mpr h
theorem divOk_of {m : Int} (h : 0 < m) (h2 : m < 1152921504606846976) : divOk m = true := by
  have l := lg60 (x := m.natAbs) (by omega)
  unfold divOk
  rw [decide_eq_true h, decide_eq_true (by omega)]; rfl
theorem f_law_take (m : Int) (hm : 0 < m) (hd' : m < 1152921504606846976) (s : Int × Int) (hs : bgOk s) : ∃ (i : Int) (s' : Int × Int), FF (k + 1) "_law_take" [.bag, .fz (.int m)] (some s) = some (.fz (.int i), some s') ∧ 0 ≤ i ∧ i < m ∧ bgOk s' := by
  unfold FF
  rw [e__law_take]
  have hd := divOk_of hm hd'
  obtain ⟨a, b⟩ := s
  obtain ⟨h1, h2⟩ := hs
  have h1 : 0 ≤ b := h1
  have h2 : b < 2147483647 := h2
  cases c : decide (0 < a) with
  | true =>
    have fd : binD .FloorDiv (.int a) (.int m) = some (.fz (.int (a / m))) := by
      show (if divOk m then _ else none) = _
      rw [hd]; rfl
    have c' : decide (a > 0) = true := c
    refine ⟨a % m, (a / m, b), ?_, Int.emod_nonneg _ (by omega), Int.emod_lt_of_pos _ hm, h1, h2⟩
    simp only [m__law_take, runM, seqS, frzS, frzs, frz1, retF, retS, ifS, skipS, andE, orE, notE, ifE, valF, vE, vV, kE, kV', callF, ar_nil, ar_cons, dn_fz, dn_ow, dn_bag, dn_scr, d_fz, d_ow, b_of, isiF, isD, blF, cmpF, chainF, orElse, lenS, bltF1, notT, andT, orT, tstF, l_list, l_tuple, l_all, l_listL, l_listT, l_tupL, l_tupT, l_abs, c_lt, c_le, c_gt, c_ge, c_eqI, c_neI, c_inS, c_niS, i_list, i_tuple, i_str, x_list, x_tuple, plainF, ixF, ixS, asgF, unpF, unF, setAll, List.length_cons, List.length_nil, List.map_cons, List.map_nil, if_true, if_false, List.cons_append, List.nil_append, List.append_nil, List.getElem?_cons_zero, List.getElem?_cons_succ, List.replicate, List.set_cons_zero, List.set_cons_succ, Option.bind_some, Option.map_some, Option.bind_none, Option.map_none, Bool.not_true, Bool.not_false, Bool.false_eq_true, Bool.or_false, Bool.or_true, Nat.reduceAdd, Nat.reduceSub, Nat.zero_add, decide_true, decide_false, Bool.true_and, Bool.false_and, Bool.and_true, Bool.and_false, binF, d_mod hm, fd, c', setS]
  | false =>
    have c' : decide (a > 0) = false := c
    have mk : ∀ x y : Int, 0 ≤ x → x < 2147483647 → 0 ≤ y → y < 2147483647 → binD .Mult (.int x) (.int y) = some (.fz (.int (x * y))) := fun x y hx hx' hy hy' => by
      show (if mulOk x y then _ else none) = _
      have : mulOk x y = true := by
        have l1 := lg31 (x := x.natAbs) (by omega)
        have l2 := lg31 (x := y.natAbs) (by omega)
        exact decide_eq_true (by omega)
      rw [this]; rfl
    have q1 := mk b 48271 h1 h2 (by omega) (by omega)
    have m1 := d_mod (i := b * 48271) (j := 2147483647) (by omega)
    have n1 : 0 ≤ b * 48271 % 2147483647 := Int.emod_nonneg _ (by omega)
    have n2 : b * 48271 % 2147483647 < 2147483647 := Int.emod_lt_of_pos _ (by omega)
    generalize b * 48271 % 2147483647 = y at m1 n1 n2
    have q2 := mk y y n1 n2 n1 n2
    have m2 := d_mod (i := y * y) (j := 2147483629) (by omega)
    generalize y * y = yy at q2 m2
    generalize yy % 2147483629 = w at m2
    have q3 : binD .FloorDiv (.int w) (.int 64) = some (.fz (.int (w / 64))) := by
      show (if divOk 64 then _ else none) = _
      rw [show divOk 64 = true from by decide +kernel]; rfl
    refine ⟨w / 64 % m, (a, y), ?_, Int.emod_nonneg _ (by omega), Int.emod_lt_of_pos _ hm, n1, n2⟩
    simp only [m__law_take, runM, seqS, frzS, frzs, frz1, retF, retS, ifS, skipS, andE, orE, notE, ifE, valF, vE, vV, kE, kV', callF, ar_nil, ar_cons, dn_fz, dn_ow, dn_bag, dn_scr, d_fz, d_ow, b_of, isiF, isD, blF, cmpF, chainF, orElse, lenS, bltF1, notT, andT, orT, tstF, l_list, l_tuple, l_all, l_listL, l_listT, l_tupL, l_tupT, l_abs, c_lt, c_le, c_gt, c_ge, c_eqI, c_neI, c_inS, c_niS, i_list, i_tuple, i_str, x_list, x_tuple, plainF, ixF, ixS, asgF, unpF, unF, setAll, List.length_cons, List.length_nil, List.map_cons, List.map_nil, if_true, if_false, List.cons_append, List.nil_append, List.append_nil, List.getElem?_cons_zero, List.getElem?_cons_succ, List.replicate, List.set_cons_zero, List.set_cons_succ, Option.bind_some, Option.map_some, Option.bind_none, Option.map_none, Bool.not_true, Bool.not_false, Bool.false_eq_true, Bool.or_false, Bool.or_true, Nat.reduceAdd, Nat.reduceSub, Nat.zero_add, decide_true, decide_false, Bool.true_and, Bool.false_and, Bool.and_true, Bool.and_false, binF, c', setS, q1, m1, q2, m2, q3, d_mod hm]
theorem f_law_of (xs : List D) (h0 : xs ≠ []) (hl : xs.length ≤ 1000000) (s : Int × Int) (hs : bgOk s) : ∃ (x : D) (s' : Int × Int), FF (k + 2) "_law_of" [.bag, .fz (.list xs)] (some s) = some (.fz x, some s') ∧ x ∈ xs ∧ bgOk s' := by
  have hp : 0 < xs.length := by
    cases xs with
    | nil => exact absurd rfl h0
    | cons a b => simp
  obtain ⟨i, s', h1, h2, h3, h4⟩ := f_law_take (k := k) (xs.length : Int) (by omega) (by omega) s hs
  unfold FF at h1 ⊢
  rw [e__law_of]
  have hi : i.toNat < xs.length := by omega
  have hx : atI xs i = some xs[i.toNat] := by
    have := atI_nat (xs := xs) (j := i.toNat) (v := xs[i.toNat]) (List.getElem?_eq_getElem hi)
    rw [show ((i.toNat : Nat) : Int) = i from by omega] at this
    exact this
  refine ⟨xs[i.toNat], s', ?_, List.getElem_mem hi, h4⟩
  generalize xs[i.toNat] = x at hx
  simp only [m__law_of, runM, seqS, frzS, frzs, frz1, retF, retS, ifS, skipS, andE, orE, notE, ifE, valF, vE, vV, kE, kV', callF, ar_nil, ar_cons, dn_fz, dn_ow, dn_bag, dn_scr, d_fz, d_ow, b_of, isiF, isD, blF, cmpF, chainF, orElse, lenS, bltF1, notT, andT, orT, tstF, l_list, l_tuple, l_all, l_listL, l_listT, l_tupL, l_tupT, l_abs, c_lt, c_le, c_gt, c_ge, c_eqI, c_neI, c_inS, c_niS, i_list, i_tuple, i_str, x_list, x_tuple, plainF, ixF, ixS, asgF, unpF, unF, setAll, List.length_cons, List.length_nil, List.map_cons, List.map_nil, if_true, if_false, List.cons_append, List.nil_append, List.append_nil, List.getElem?_cons_zero, List.getElem?_cons_succ, List.replicate, List.set_cons_zero, List.set_cons_succ, Option.bind_some, Option.map_some, Option.bind_none, Option.map_none, Bool.not_true, Bool.not_false, Bool.false_eq_true, Bool.or_false, Bool.or_true, Nat.reduceAdd, Nat.reduceSub, Nat.zero_add, decide_true, decide_false, Bool.true_and, Bool.false_and, Bool.and_true, Bool.and_false, h1, hx]
def bagV (ns : List Int) (j : Nat) : Int := match ns[j]? with
  | some n => if n < 0 then -n else n
  | none => 0
theorem bagV_nn (ns : List Int) (j : Nat) : 0 ≤ bagV ns j := by
  unfold bagV
  split
  · split <;> omega
  · omega
theorem f_law_bag (ns : List Int) (j : Nat) (hj : j ≤ 1000) : ∃ s, FF (k + 1) "_law_bag" [.scr ns, .fz (.int (j : Nat))] none = some (.ow (.list [.int s.1, .int s.2]), none) ∧ bgOk s := by
  unfold FF
  rw [e__law_bag]
  have hp : binD .Pow (.int 10) (.int 18) = some (.fz (.int 1000000000000000000)) := by
    show (if powOk 10 18 then _ else none) = _
    rw [show powOk 10 18 = true from by decide +kernel]
    rfl
  have hv := bagV_nn ns j
  have st2 : (frzS [] (ifS (cmpF .Lt (vV 1) (valF (orElse (lenS 0) (bltF1 .len (vV 0))))) (seqS (frzS [] (asgF 2 (bltF1 .abs (valF (orElse (ixS 0 (vV 1)) (ixF (vV 0) (vV 1))))))) skipS) skipS)) [some (.scr ns), some (.fz (.int (j : Nat))), some (.fz (.int 0))] none = some (.nx, [some (.scr ns), some (.fz (.int (j : Nat))), some (.fz (.int (bagV ns j)))], none) := by
    cases hn : ns[j]? with
    | none =>
      have : decide ((j : Int) < (ns.length : Int)) = false := by
        have := List.getElem?_eq_none_iff.mp hn
        exact decide_eq_false (by omega)
      simp only [runM, seqS, frzS, frzs, frz1, retF, retS, ifS, skipS, andE, orE, notE, ifE, valF, vE, vV, kE, kV', callF, ar_nil, ar_cons, dn_fz, dn_ow, dn_bag, dn_scr, d_fz, d_ow, b_of, isiF, isD, blF, cmpF, chainF, orElse, lenS, bltF1, notT, andT, orT, tstF, l_list, l_tuple, l_all, l_listL, l_listT, l_tupL, l_tupT, l_abs, c_lt, c_le, c_gt, c_ge, c_eqI, c_neI, c_inS, c_niS, i_list, i_tuple, i_str, x_list, x_tuple, plainF, ixF, ixS, asgF, unpF, unF, setAll, List.length_cons, List.length_nil, List.map_cons, List.map_nil, if_true, if_false, List.cons_append, List.nil_append, List.append_nil, List.getElem?_cons_zero, List.getElem?_cons_succ, List.replicate, List.set_cons_zero, List.set_cons_succ, Option.bind_some, Option.map_some, Option.bind_none, Option.map_none, Bool.not_true, Bool.not_false, Bool.false_eq_true, Bool.or_false, Bool.or_true, Nat.reduceAdd, Nat.reduceSub, Nat.zero_add, decide_true, decide_false, Bool.true_and, Bool.false_and, Bool.and_true, Bool.and_false, this, bagV, hn]
    | some n =>
      have hlt : decide ((j : Int) < (ns.length : Int)) = true := by
        have := (List.getElem?_eq_some_iff.mp hn).1
        exact decide_eq_true (by omega)
      have hx : atI ns (j : Int) = some n := atI_nat hn
      simp only [runM, seqS, frzS, frzs, frz1, retF, retS, ifS, skipS, andE, orE, notE, ifE, valF, vE, vV, kE, kV', callF, ar_nil, ar_cons, dn_fz, dn_ow, dn_bag, dn_scr, d_fz, d_ow, b_of, isiF, isD, blF, cmpF, chainF, orElse, lenS, bltF1, notT, andT, orT, tstF, l_list, l_tuple, l_all, l_listL, l_listT, l_tupL, l_tupT, l_abs, c_lt, c_le, c_gt, c_ge, c_eqI, c_neI, c_inS, c_niS, i_list, i_tuple, i_str, x_list, x_tuple, plainF, ixF, ixS, asgF, unpF, unF, setAll, List.length_cons, List.length_nil, List.map_cons, List.map_nil, if_true, if_false, List.cons_append, List.nil_append, List.append_nil, List.getElem?_cons_zero, List.getElem?_cons_succ, List.replicate, List.set_cons_zero, List.set_cons_succ, Option.bind_some, Option.map_some, Option.bind_none, Option.map_none, Bool.not_true, Bool.not_false, Bool.false_eq_true, Bool.or_false, Bool.or_true, Nat.reduceAdd, Nat.reduceSub, Nat.zero_add, decide_true, decide_false, Bool.true_and, Bool.false_and, Bool.and_true, Bool.and_false, hlt, bagV, hn, hx]
  have mk : ∀ x y : Int, 0 ≤ x → x < 1152921504606846976 → 0 ≤ y → y < 1152921504606846976 → binD .Mult (.int x) (.int y) = some (.fz (.int (x * y))) := fun x y hx hx' hy hy' => by
    show (if mulOk x y then _ else none) = _
    have : mulOk x y = true := by
      have l1 := lg60 (x := x.natAbs) (by omega)
      have l2 := lg60 (x := y.natAbs) (by omega)
      exact decide_eq_true (by omega)
    rw [this]; rfl
  generalize bagV ns j = v at hv st2
  have ad : ∀ x y : Int, binD .Add (.int x) (.int y) = some (.fz (.int (x + y))) := fun _ _ => rfl
  have md := fun x : Int => d_mod (i := x) (j := 2147483646) (by omega)
  have b0 : ∀ x : Int, 0 ≤ 1 + x % 2147483646 ∧ 1 + x % 2147483646 < 2147483647 := fun x => by
    have h1 := Int.emod_nonneg x (b := 2147483646) (by omega)
    have h2 := Int.emod_lt_of_pos x (b := 2147483646) (by omega)
    omega
  cases c : decide (v < 1000000000000000000) with
  | true =>
    have c' := of_decide_eq_true c
    have m1 := mk v 7919 hv (by omega) (by omega) (by omega)
    have m2 := mk 104729 (j : Int) (by omega) (by omega) (by omega) (by omega)
    refine ⟨(0, 1 + (v * 7919 + 104729 * (j : Int)) % 2147483646), ?_, b0 _⟩
    refine run_rt (env1 := [some (.scr ns), some (.fz (.int (j : Nat))), some (.fz (.int v))]) rfl ?_
    unfold m__law_bag
    rw [seq_nx (env1 := [some (.scr ns), some (.fz (.int (j : Nat))), some (.fz (.int 0))]) (st1 := none) rfl]
    rw [seq_nx st2]
    refine seq_rt ?_
    simp only [runM, seqS, frzS, frzs, frz1, retF, retS, ifS, skipS, andE, orE, notE, ifE, valF, vE, vV, kE, kV', callF, ar_nil, ar_cons, dn_fz, dn_ow, dn_bag, dn_scr, d_fz, d_ow, b_of, isiF, isD, blF, cmpF, chainF, orElse, lenS, bltF1, notT, andT, orT, tstF, l_list, l_tuple, l_all, l_listL, l_listT, l_tupL, l_tupT, l_abs, c_lt, c_le, c_gt, c_ge, c_eqI, c_neI, c_inS, c_niS, i_list, i_tuple, i_str, x_list, x_tuple, plainF, ixF, ixS, asgF, unpF, unF, setAll, List.length_cons, List.length_nil, List.map_cons, List.map_nil, if_true, if_false, List.cons_append, List.nil_append, List.append_nil, List.getElem?_cons_zero, List.getElem?_cons_succ, List.replicate, List.set_cons_zero, List.set_cons_succ, Option.bind_some, Option.map_some, Option.bind_none, Option.map_none, Bool.not_true, Bool.not_false, Bool.false_eq_true, Bool.or_false, Bool.or_true, Nat.reduceAdd, Nat.reduceSub, Nat.zero_add, decide_true, decide_false, Bool.true_and, Bool.false_and, Bool.and_true, Bool.and_false, binF, hp, c, m1, m2, ad, md, lstF]
    rfl
  | false =>
    refine ⟨(v, 1 + (v + (j : Int)) % 2147483646), ?_, b0 _⟩
    refine run_rt (env1 := [some (.scr ns), some (.fz (.int (j : Nat))), some (.fz (.int v))]) rfl ?_
    unfold m__law_bag
    rw [seq_nx (env1 := [some (.scr ns), some (.fz (.int (j : Nat))), some (.fz (.int 0))]) (st1 := none) rfl]
    rw [seq_nx st2]
    rw [seq_nx (env1 := [some (.scr ns), some (.fz (.int (j : Nat))), some (.fz (.int v))]) (st1 := none) (by simp only [runM, seqS, frzS, frzs, frz1, retF, retS, ifS, skipS, andE, orE, notE, ifE, valF, vE, vV, kE, kV', callF, ar_nil, ar_cons, dn_fz, dn_ow, dn_bag, dn_scr, d_fz, d_ow, b_of, isiF, isD, blF, cmpF, chainF, orElse, lenS, bltF1, notT, andT, orT, tstF, l_list, l_tuple, l_all, l_listL, l_listT, l_tupL, l_tupT, l_abs, c_lt, c_le, c_gt, c_ge, c_eqI, c_neI, c_inS, c_niS, i_list, i_tuple, i_str, x_list, x_tuple, plainF, ixF, ixS, asgF, unpF, unF, setAll, List.length_cons, List.length_nil, List.map_cons, List.map_nil, if_true, if_false, List.cons_append, List.nil_append, List.append_nil, List.getElem?_cons_zero, List.getElem?_cons_succ, List.replicate, List.set_cons_zero, List.set_cons_succ, Option.bind_some, Option.map_some, Option.bind_none, Option.map_none, Bool.not_true, Bool.not_false, Bool.false_eq_true, Bool.or_false, Bool.or_true, Nat.reduceAdd, Nat.reduceSub, Nat.zero_add, decide_true, decide_false, Bool.true_and, Bool.false_and, Bool.and_true, Bool.and_false, binF, hp, c])]
    refine seq_rt ?_
    simp only [runM, seqS, frzS, frzs, frz1, retF, retS, ifS, skipS, andE, orE, notE, ifE, valF, vE, vV, kE, kV', callF, ar_nil, ar_cons, dn_fz, dn_ow, dn_bag, dn_scr, d_fz, d_ow, b_of, isiF, isD, blF, cmpF, chainF, orElse, lenS, bltF1, notT, andT, orT, tstF, l_list, l_tuple, l_all, l_listL, l_listT, l_tupL, l_tupT, l_abs, c_lt, c_le, c_gt, c_ge, c_eqI, c_neI, c_inS, c_niS, i_list, i_tuple, i_str, x_list, x_tuple, plainF, ixF, ixS, asgF, unpF, unF, setAll, List.length_cons, List.length_nil, List.map_cons, List.map_nil, if_true, if_false, List.cons_append, List.nil_append, List.append_nil, List.getElem?_cons_zero, List.getElem?_cons_succ, List.replicate, List.set_cons_zero, List.set_cons_succ, Option.bind_some, Option.map_some, Option.bind_none, Option.map_none, Bool.not_true, Bool.not_false, Bool.false_eq_true, Bool.or_false, Bool.or_true, Nat.reduceAdd, Nat.reduceSub, Nat.zero_add, decide_true, decide_false, Bool.true_and, Bool.false_and, Bool.and_true, Bool.and_false, binF, ad, md, lstF]
    rfl
end K01

set_option maxHeartbeats 4000000
namespace K01
open PySem PySem.Spec PyProof.Rows L2 Iv
variable {k : Nat}
def oddA : List D := [.none, .bool true, .bool false, .int 0, .int 1, .int (-1), .int 5, .int 1000000000000000000000000000000, .str "", .str "ann", .tuple [], .list [], .tuple [.int 1, .int 2], .tuple [.int (-1), .int 2], .tuple [.int 2, .int 4], .tuple [.int 0, .int 2], .tuple [.int 0, .int 1]]
def oddB : List D := [.tuple [.none], .tuple [.str "ann", .int 1, .tuple []], .tuple [.tuple [.str "ann", .int 1, .tuple []]], .tuple [.tuple [.int 0, .tuple [.int 0]]], .tuple [.str "ann", .int 0], .tuple [.str "ann", .bool true], .tuple [.int 1, .int 1, .str ""]]
theorem odd_gd : ∀ x ∈ oddA ++ oddB, gd x = true ∧ x.depth ≤ 4 := by
  have h : ((oddA ++ oddB).all fun x => gd x && decide (x.depth ≤ 4)) = true := by decide +kernel
  intro x hx
  have := List.all_eq_true.mp h x hx
  simp only [Bool.and_eq_true, decide_eq_true_eq] at this
  exact this
theorem f_law_odd (s : Int × Int) (hs : bgOk s) : ∃ (x : D) (s' : Int × Int), FF (k + 2) "_law_odd" [.bag] (some s) = some (.fz x, some s') ∧ (gd x = true ∧ x.depth ≤ 4) ∧ bgOk s' := by
  obtain ⟨i, s', h1, h2, h3, h4⟩ := f_law_take (k := k) 24 (by omega) (by omega) s hs
  unfold FF at h1 ⊢
  rw [e__law_odd]
  have hi : i.toNat < (oddA ++ oddB).length := by
    show i.toNat < 24
    omega
  have hx : atI (oddA ++ oddB) i = some (oddA ++ oddB)[i.toNat] := by
    have := atI_nat (xs := oddA ++ oddB) (j := i.toNat) (v := (oddA ++ oddB)[i.toNat]) (List.getElem?_eq_getElem hi)
    rw [show ((i.toNat : Nat) : Int) = i from by omega] at this
    exact this
  refine ⟨(oddA ++ oddB)[i.toNat], s', ?_, odd_gd _ (List.getElem_mem hi), h4⟩
  generalize (oddA ++ oddB)[i.toNat] = x at hx
  have ln : (oddA ++ oddB).length = 24 := rfl
  unfold m__law_odd
  refine run_rt (env1 := [some .bag, some (.ow (.list (oddA ++ oddB)))]) rfl ?_
  rw [seq_nx (env1 := [some .bag, some (.ow (.list oddA))]) (st1 := some s) (by kernel_rfl)]
  rw [seq_nx (env1 := [some .bag, some (.ow (.list (oddA ++ oddB)))]) (st1 := some s) (by kernel_rfl)]
  refine seq_rt ?_
  generalize oddA ++ oddB = L at hx ln
  have ln' : ((L.length : Nat) : Int) = 24 := by rw [ln]; rfl
  simp only [runM, seqS, frzS, frzs, frz1, retF, retS, ifS, skipS, andE, orE, notE, ifE, valF, vE, vV, kE, kV', callF, ar_nil, ar_cons, dn_fz, dn_ow, dn_bag, dn_scr, d_fz, d_ow, b_of, isiF, isD, blF, cmpF, chainF, orElse, lenS, bltF1, notT, andT, orT, tstF, l_list, l_tuple, l_all, l_listL, l_listT, l_tupL, l_tupT, l_abs, c_lt, c_le, c_gt, c_ge, c_eqI, c_neI, c_inS, c_niS, i_list, i_tuple, i_str, x_list, x_tuple, plainF, ixF, ixS, asgF, unpF, unF, setAll, List.length_cons, List.length_nil, List.map_cons, List.map_nil, if_true, if_false, List.cons_append, List.nil_append, List.append_nil, List.getElem?_cons_zero, List.getElem?_cons_succ, List.replicate, List.set_cons_zero, List.set_cons_succ, Option.bind_some, Option.map_some, Option.bind_none, Option.map_none, Bool.not_true, Bool.not_false, Bool.false_eq_true, Bool.or_false, Bool.or_true, Nat.reduceAdd, Nat.reduceSub, Nat.zero_add, decide_true, decide_false, Bool.true_and, Bool.false_and, Bool.and_true, Bool.and_false, ln', h1, hx]
theorem f_law_part (top : Int) (ht : 0 ≤ top) (ht2 : top < 1000000000) (s : Int × Int) (hs : bgOk s) : ∃ (x y : Int) (s' : Int × Int), FF (k + 2) "_law_part" [.bag, .fz (.int top)] (some s) = some (.fz (.tuple [.int x, .int y]), some s') ∧ bgOk s' := by
  obtain ⟨i, s1, h1, i0, i1, b1⟩ := f_law_take (k := k) (top + 1) (by omega) (by omega) s hs
  obtain ⟨j, s2, h2, j0, j1, b2⟩ := f_law_take (k := k) 2 (by omega) (by omega) s1 b1
  have hc : ∃ c : Int, atI [PyData.int 1, .int 4] j = some (.int c) ∧ 0 < c ∧ c ≤ 4 := by
    rcases (show j = 0 ∨ j = 1 by omega) with rfl | rfl
    · exact ⟨1, rfl, by omega, by omega⟩
    · exact ⟨4, rfl, by omega, by omega⟩
  obtain ⟨c, hx, c0, c4⟩ := hc
  obtain ⟨l, s3, h3, l0, l1, b3⟩ := f_law_take (k := k) c (by omega) (by omega) s2 b2
  have h4 := f_law_lowest (k := k) (st := some s3) i.toNat (1 + l).toNat (by omega) (Nat.lt_of_lt_of_le (show (1 + l).toNat < 2 ^ 3 by omega) (Nat.pow_le_pow_right (by decide) (show 3 ≤ 1000 by decide)))
  rw [show ((i.toNat : Nat) : Int) = i from by omega, show (((1 + l).toNat : Nat) : Int) = 1 + l from by omega] at h4
  refine ⟨((i.toNat / Nat.gcd i.toNat (1 + l).toNat : Nat) : Int), (((1 + l).toNat / Nat.gcd i.toNat (1 + l).toNat : Nat) : Int), s3, ?_, b3⟩
  generalize ((i.toNat / Nat.gcd i.toNat (1 + l).toNat : Nat) : Int) = u at h4 ⊢
  generalize (((1 + l).toNat / Nat.gcd i.toNat (1 + l).toNat : Nat) : Int) = w at h4 ⊢
  unfold FF at h1 h2 h3 h4 ⊢
  rw [e__law_part]
  have ad : ∀ x y : Int, binD .Add (.int x) (.int y) = some (.fz (.int (x + y))) := fun _ _ => rfl
  have ls : ∀ (env : Env') (st : BSt), lstF (argsF [(kE (.int 1)), (kE (.int 4))]) env st = some (.ow (.list [.int 1, .int 4]), st) := fun _ _ => rfl
  simp only [m__law_part, runM, seqS, frzS, frzs, frz1, retF, retS, ifS, skipS, andE, orE, notE, ifE, valF, vE, vV, kE, kV', callF, ar_nil, ar_cons, dn_fz, dn_ow, dn_bag, dn_scr, d_fz, d_ow, b_of, isiF, isD, blF, cmpF, chainF, orElse, lenS, bltF1, notT, andT, orT, tstF, l_list, l_tuple, l_all, l_listL, l_listT, l_tupL, l_tupT, l_abs, c_lt, c_le, c_gt, c_ge, c_eqI, c_neI, c_inS, c_niS, i_list, i_tuple, i_str, x_list, x_tuple, plainF, ixF, ixS, asgF, unpF, unF, setAll, List.length_cons, List.length_nil, List.map_cons, List.map_nil, if_true, if_false, List.cons_append, List.nil_append, List.append_nil, List.getElem?_cons_zero, List.getElem?_cons_succ, List.replicate, List.set_cons_zero, List.set_cons_succ, Option.bind_some, Option.map_some, Option.bind_none, Option.map_none, Bool.not_true, Bool.not_false, Bool.false_eq_true, Bool.or_false, Bool.or_true, Nat.reduceAdd, Nat.reduceSub, Nat.zero_add, decide_true, decide_false, Bool.true_and, Bool.false_and, Bool.and_true, Bool.and_false, binF, ad, ls, h1, h2, hx, h3, h4]
end K01

set_option maxHeartbeats 4000000
namespace K01
open PySem PySem.Spec PyProof.Rows L2 Iv
variable {k : Nat}
/-! ### a loop that keeps something, with the bag -/
theorem forL_inv {g : GF} {f : SF} {N : Nat} {I : Nat → Env' → Int × Int → Prop} : ∀ (ds : List D) (j : Nat) (env : Env') (s : Int × Int), (∀ d ∈ ds, ∀ j env s, j < N → I j env s → ∃ env1 env2 s2, g d env = some env1 ∧ f env1 (some s) = some (.nx, env2, some s2) ∧ I (j + 1) env2 s2) → j + ds.length ≤ N → I j env s →
    ∃ env' s', forL g f ds env (some s) = some (.nx, env', some s') ∧ I (j + ds.length) env' s'
  | [], j, env, s, _, _, h => ⟨env, s, rfl, h⟩
  | d :: ds, j, env, s, hb, hn, h => by
    have hn' : j + (ds.length + 1) ≤ N := hn
    obtain ⟨e1, e2, s2, h1, h2, h3⟩ := hb d List.mem_cons_self j env s (by omega) h
    obtain ⟨e', s', h4, h5⟩ := forL_inv ds (j + 1) e2 s2 (fun d hd => hb d (List.mem_cons_of_mem _ hd)) (by omega) h3
    refine ⟨e', s', ?_, ?_⟩
    · simp only [forL, h1, Option.bind_some, h2, h4]
    · rw [List.length_cons, show j + (ds.length + 1) = j + 1 + ds.length from by omega]; exact h5
def tubSh (d : D) : Prop := ∃ (n : Str) (g : D) (hs : List D), d = .tuple [.str n, g, .tuple hs] ∧ hs.length ≤ 3 ∧ ∀ x ∈ hs, ∃ (a b : Int) (w : Str), x = .tuple [.int a, .int b, .str w]
def pairI (x : D) : Prop := ∃ a b : Int, x = .tuple [.int a, .int b]
noncomputable def bodyG (k : Nat) : SF := (seqS (frzS [0, 5] (asgF 6 (binF .Add (valF (lstF (argsF [(tupF (argsF [(kE (.int 0)), (kE (.int 1))])), (callF (tbl.F whR 60 (k + 2)) "_law_part" (argsF [(vE 0), (kE (.int 15))]))]))) (valF (lcF (plainF (vE 5)) [7] (setF 7) yesT (tupF (argsF [(orElse (ixS 7 (valF (kE (.int 0)))) (ixF (vV 7) (valF (kE (.int 0))))), (kE (.int 1))])))))))
    (seqS (frzS [0, 6] (appS 2 (callF (tbl.F whR 60 (k + 2)) "_law_of" (argsF [(vE 0), (vE 6)]))))
    skipS))
theorem bodyG_ok (ts xs hs : List D) (n : Str) (g : D) (z6 z7 : Option R) (hl : hs.length ≤ 3) (hh : ∀ x ∈ hs, ∃ (a : Int) (b c : D), x = .tuple [.int a, b, c]) (hx : ∀ x ∈ xs, pairI x) (hxl : xs.length ≤ 200) (s : Int × Int) (hs' : bgOk s) :
    ∃ (y : D) (z : Option R) (s' : Int × Int), bodyG k [some .bag, some (.fz (.tuple ts)), some (.ow (.list xs)), some (.fz (.str n)), some (.fz g), some (.fz (.tuple hs)), z6, z7] (some s) = some (.nx, [some .bag, some (.fz (.tuple ts)), some (.ow (.list (xs ++ [y]))), some (.fz (.str n)), some (.fz g), some (.fz (.tuple hs)), z, z7], some s') ∧ pairI y ∧ bgOk s' := by
  obtain ⟨a, b, s1, h1, b1⟩ := f_law_part (k := k) 15 (by omega) (by omega) s hs'
  have hz : hs.length ≤ sizeLine := by rw [sizeLine_eq]; omega
  have l2 : lcF (plainF (vE 5)) [7] (setF 7) yesT (tupF (argsF [(orElse (ixS 7 (valF (kE (.int 0)))) (ixF (vV 7) (valF (kE (.int 0))))), (kE (.int 1))])) [some .bag, some (.fz (.tuple ts)), some (.ow (.list xs)), some (.fz (.str n)), some (.fz g), some (.fz (.tuple hs)), z6, z7] (some s1) = some (.ow (.list (hs.map fun d => .tuple [.int (hgt d), .int 1])), some s1) :=
    lcF_map _ rfl (fun d hd => by
      obtain ⟨x, y, z, rfl⟩ := hh d hd
      exact ⟨_, _, rfl, rfl, rfl⟩) hz
  have hL : ∀ x ∈ [PyData.tuple [.int 0, .int 1], .tuple [.int a, .int b]] ++ (hs.map fun d => PyData.tuple [.int (hgt d), .int 1]), pairI x := fun x hx => by
    rcases List.mem_append.mp hx with hx | hx
    · rcases List.mem_cons.mp hx with rfl | hx
      · exact ⟨_, _, rfl⟩
      · rw [List.mem_singleton.mp hx]; exact ⟨_, _, rfl⟩
    · obtain ⟨d, _, rfl⟩ := List.mem_map.mp hx
      exact ⟨_, _, rfl⟩
  have hLl : ([PyData.tuple [.int 0, .int 1], .tuple [.int a, .int b]] ++ (hs.map fun d => PyData.tuple [.int (hgt d), .int 1])).length ≤ 10 := by
    rw [List.length_append, List.length_map]; simp; omega
  have hLn : [PyData.tuple [.int 0, .int 1], .tuple [.int a, .int b]] ++ (hs.map fun d => PyData.tuple [.int (hgt d), .int 1]) ≠ [] := by simp
  have ad : binD .Add (.list [PyData.tuple [.int 0, .int 1], .tuple [.int a, .int b]]) (.list (hs.map fun d => PyData.tuple [.int (hgt d), .int 1])) = some (.ow (.list ([PyData.tuple [.int 0, .int 1], .tuple [.int a, .int b]] ++ (hs.map fun d => PyData.tuple [.int (hgt d), .int 1])))) := by
    show (if lenOk _ then _ else none) = _
    rw [show lenOk ([PyData.tuple [.int 0, .int 1], .tuple [.int a, .int b]].length + (hs.map fun d => PyData.tuple [.int (hgt d), .int 1]).length) = true from decide_eq_true (by rw [sizeLine_eq, List.length_map]; simp; omega)]
    rfl
  generalize (hs.map fun d => PyData.tuple [.int (hgt d), .int 1]) = M at l2 hL hLl hLn ad
  have ls : lstF (argsF [(tupF (argsF [(kE (.int 0)), (kE (.int 1))])), (callF (tbl.F whR 60 (k + 2)) "_law_part" (argsF [(vE 0), (kE (.int 15))]))]) [some .bag, some (.fz (.tuple ts)), some (.ow (.list xs)), some (.fz (.str n)), some (.fz g), some (.fz (.tuple hs)), z6, z7] (some s) = some (.ow (.list [PyData.tuple [.int 0, .int 1], .tuple [.int a, .int b]]), some s1) := by
    unfold FF at h1
    have tp : ∀ (env : Env') (st : BSt), tupF (argsF [(kE (.int 0)), (kE (.int 1))]) env st = some (.fz (.tuple [.int 0, .int 1]), st) := fun _ _ => rfl
    simp only [lstF, tp, runM, seqS, frzS, frzs, frz1, retF, retS, ifS, skipS, andE, orE, notE, ifE, valF, vE, vV, kE, kV', callF, ar_nil, ar_cons, dn_fz, dn_ow, dn_bag, dn_scr, d_fz, d_ow, b_of, isiF, isD, blF, cmpF, chainF, orElse, lenS, bltF1, notT, andT, orT, tstF, l_list, l_tuple, l_all, l_listL, l_listT, l_tupL, l_tupT, l_abs, c_lt, c_le, c_gt, c_ge, c_eqI, c_neI, c_inS, c_niS, i_list, i_tuple, i_str, x_list, x_tuple, plainF, ixF, ixS, asgF, unpF, unF, setAll, List.length_cons, List.length_nil, List.map_cons, List.map_nil, if_true, if_false, List.cons_append, List.nil_append, List.append_nil, List.getElem?_cons_zero, List.getElem?_cons_succ, List.replicate, List.set_cons_zero, List.set_cons_succ, Option.bind_some, Option.map_some, Option.bind_none, Option.map_none, Bool.not_true, Bool.not_false, Bool.false_eq_true, Bool.or_false, Bool.or_true, Nat.reduceAdd, Nat.reduceSub, Nat.zero_add, decide_true, decide_false, Bool.true_and, Bool.false_and, Bool.and_true, Bool.and_false, h1]
    rfl
  generalize [PyData.tuple [.int 0, .int 1], .tuple [.int a, .int b]] ++ M = L at hL hLl hLn ad
  obtain ⟨y, s2, h2, my, b2⟩ := f_law_of (k := k) L hLn (by omega) s1 b1
  unfold FF at h2
  have sz : decide (xs.length < sizeLine) = true := decide_eq_true (by rw [sizeLine_eq]; omega)
  refine ⟨y, some (.fz (.list L)), s2, ?_, hL y my, b2⟩
  generalize [PyData.tuple [.int 0, .int 1], .tuple [.int a, .int b]] = P at ls ad
  simp only [bodyG, runM, seqS, frzS, frzs, frz1, retF, retS, ifS, skipS, andE, orE, notE, ifE, valF, vE, vV, kE, kV', callF, ar_nil, ar_cons, dn_fz, dn_ow, dn_bag, dn_scr, d_fz, d_ow, b_of, isiF, isD, blF, cmpF, chainF, orElse, lenS, bltF1, notT, andT, orT, tstF, l_list, l_tuple, l_all, l_listL, l_listT, l_tupL, l_tupT, l_abs, c_lt, c_le, c_gt, c_ge, c_eqI, c_neI, c_inS, c_niS, i_list, i_tuple, i_str, x_list, x_tuple, plainF, ixF, ixS, asgF, unpF, unF, setAll, List.length_cons, List.length_nil, List.map_cons, List.map_nil, if_true, if_false, List.cons_append, List.nil_append, List.append_nil, List.getElem?_cons_zero, List.getElem?_cons_succ, List.replicate, List.set_cons_zero, List.set_cons_succ, Option.bind_some, Option.map_some, Option.bind_none, Option.map_none, Bool.not_true, Bool.not_false, Bool.false_eq_true, Bool.or_false, Bool.or_true, Nat.reduceAdd, Nat.reduceSub, Nat.zero_add, decide_true, decide_false, Bool.true_and, Bool.false_and, Bool.and_true, Bool.and_false, binF, ls, l2, ad, appS, h2, sz]
theorem f_law_beginning (ts : List D) (ht : ∀ d ∈ ts, tubSh d) (hl : ts.length ≤ 100) (s : Int × Int) (hs : bgOk s) : ∃ (xs : List D) (s' : Int × Int), FF (k + 3) "_law_beginning" [.bag, .fz (.tuple ts)] (some s) = some (.fz (.tuple xs), some s') ∧ xs.length = ts.length ∧ (∀ x ∈ xs, pairI x) ∧ bgOk s' := by
  unfold FF
  rw [e__law_beginning]
  obtain ⟨env', s', h1, h2, xs, z3, z4, z5, z6, z7, rfl, h4, h5⟩ := forL_inv (g := unF [3, 4, 5]) (f := bodyG k) (N := 100) (I := fun j env s => bgOk s ∧ ∃ xs z3 z4 z5 z6 z7, env = [some .bag, some (.fz (.tuple ts)), some (.ow (.list xs)), z3, z4, z5, z6, z7] ∧ xs.length = j ∧ (∀ x ∈ xs, pairI x)) ts 0 [some .bag, some (.fz (.tuple ts)), some (.ow (.list [])), none, none, none, none, none] s (fun d hd j env s hj hI => by
    obtain ⟨b, xs, z3, z4, z5, z6, z7, rfl, hx, hp⟩ := hI
    obtain ⟨n, g, hs', rfl, hl', hh⟩ := ht d hd
    obtain ⟨y, z, s', q1, q2, q3⟩ := bodyG_ok (k := k) ts xs hs' n g z6 z7 hl' (fun x hx => (hh x hx).elim fun a h => h.elim fun b h => h.elim fun w h => ⟨a, .int b, .str w, h⟩) hp (by omega) s b
    refine ⟨_, _, s', rfl, q1, q3, xs ++ [y], _, _, _, _, _, rfl, by rw [List.length_append, hx]; rfl, fun x hx => ?_⟩
    rcases List.mem_append.mp hx with hx | hx
    · exact hp x hx
    · rw [List.mem_singleton.mp hx]; exact q2) (by omega) ⟨hs, [], none, none, none, none, none, rfl, rfl, fun x hx => by cases hx⟩
  refine ⟨xs, s', ?_, by rw [h4, Nat.zero_add], h5, h2⟩
  refine run_rt (env1 := [some .bag, some (.fz (.tuple ts)), some (.ow (.list xs)), z3, z4, z5, z6, z7]) rfl ?_
  have fo : frzS [1] (forF (plainF (vE 1)) (unF [3, 4, 5]) (bodyG k)) [some .bag, some (.fz (.tuple ts)), some (.ow (.list [])), none, none, none, none, none] (some s) = _ := h1
  unfold m__law_beginning
  rw [seq_nx (env1 := [some .bag, some (.fz (.tuple ts)), some (.ow (.list [])), none, none, none, none, none]) (st1 := some s) rfl]
  refine (seq_nx fo).trans ?_
  refine seq_rt ?_
  have hz : xs.length ≤ sizeLine := by rw [sizeLine_eq, h4]; omega
  simp only [runM, seqS, frzS, frzs, frz1, retF, retS, ifS, skipS, andE, orE, notE, ifE, valF, vE, vV, kE, kV', callF, ar_nil, ar_cons, dn_fz, dn_ow, dn_bag, dn_scr, d_fz, d_ow, b_of, isiF, isD, blF, cmpF, chainF, orElse, lenS, bltF1, notT, andT, orT, tstF, l_list, l_tuple, l_all, l_listL, l_listT, l_tupL, l_tupT, l_abs, c_lt, c_le, c_gt, c_ge, c_eqI, c_neI, c_inS, c_niS, i_list, i_tuple, i_str, x_list, x_tuple, plainF, ixF, ixS, asgF, unpF, unF, setAll, List.length_cons, List.length_nil, List.map_cons, List.map_nil, if_true, if_false, List.cons_append, List.nil_append, List.append_nil, List.getElem?_cons_zero, List.getElem?_cons_succ, List.replicate, List.set_cons_zero, List.set_cons_succ, Option.bind_some, Option.map_some, Option.bind_none, Option.map_none, Bool.not_true, Bool.not_false, Bool.false_eq_true, Bool.or_false, Bool.or_true, Nat.reduceAdd, Nat.reduceSub, Nat.zero_add, decide_true, decide_false, Bool.true_and, Bool.false_and, Bool.and_true, Bool.and_false]
end K01

set_option maxHeartbeats 4000000
namespace K01
open PySem PySem.Spec PyProof.Rows L2 Iv
variable {k : Nat}
def isI (x : D) : Prop := ∃ a : Int, x = .int a
noncomputable def bodyR1 : SF := (seqS (frzS [] (asgF 7 (binF .Add (vV 7) (valF (orElse (ixS 8 (valF (kE (.int 1)))) (ixF (vV 8) (valF (kE (.int 1)))))))))
    (seqS (frzS [7] (appS 6 (vE 7)))
    skipS))
noncomputable def bodyR (k : Nat) : SF := (seqS (frzS [] (par2F 6 7 (lstF (argsF [(kE (.int 0))])) (kE (.int 0))))
    (seqS (frzS [5] (forF (plainF (vE 5)) (setF 8) bodyR1))
    (seqS (frzS [0, 6, 0, 0, 0] (appS 2 (ixF (valF (lstF (argsF [(callF (tbl.F whR 60 (k + 2)) "_law_of" (argsF [(vE 0), (vE 6)])), (callF (tbl.F whR 60 (k + 2)) "_law_take" (argsF [(vE 0), (kE (.int 8))])), (callF (tbl.F whR 60 (k + 2)) "_law_take" (argsF [(vE 0), (kE (.int 200))])), (kE (.int 0))]))) (valF (callF (tbl.F whR 60 (k + 2)) "_law_take" (argsF [(vE 0), (kE (.int 4))]))))))
    skipS)))
theorem bodyR_ok (ts xs hs : List D) (n : Str) (g : D) (z6 z7 z8 : Option R) (hl : hs.length ≤ 3) (hh : ∀ x ∈ hs, ∃ (a b : Int) (w : Str), x = .tuple [.int a, .int b, .str w]) (hx : ∀ x ∈ xs, isI x) (hxl : xs.length ≤ 200) (s : Int × Int) (hs' : bgOk s) :
    ∃ (y : D) (z z' z'' : Option R) (s' : Int × Int), bodyR k [some .bag, some (.fz (.tuple ts)), some (.ow (.list xs)), some (.fz (.str n)), some (.fz g), some (.fz (.tuple hs)), z6, z7, z8] (some s) = some (.nx, [some .bag, some (.fz (.tuple ts)), some (.ow (.list (xs ++ [y]))), some (.fz (.str n)), some (.fz g), some (.fz (.tuple hs)), z, z', z''], some s') ∧ isI y ∧ bgOk s' := by
  obtain ⟨env', s0, h1, h2, us, t, y8, rfl, h4, h5⟩ := forL_inv (g := setF 8) (f := bodyR1) (N := 100) (I := fun j env s1 => s1 = s ∧ ∃ us t y8, env = [some .bag, some (.fz (.tuple ts)), some (.ow (.list xs)), some (.fz (.str n)), some (.fz g), some (.fz (.tuple hs)), some (.ow (.list us)), some (.fz (.int t)), y8] ∧ us.length = j + 1 ∧ (∀ x ∈ us, isI x)) hs 0 [some .bag, some (.fz (.tuple ts)), some (.ow (.list xs)), some (.fz (.str n)), some (.fz g), some (.fz (.tuple hs)), some (.ow (.list [.int 0])), some (.fz (.int 0)), z8] s (fun d hd j env s1 hj hI => by
    obtain ⟨rfl, us, t, y8, rfl, hu, hp⟩ := hI
    obtain ⟨a, b, w, rfl⟩ := hh d hd
    have sz : decide (us.length < sizeLine) = true := decide_eq_true (by rw [sizeLine_eq]; omega)
    have x1 : atI [PyData.int a, .int b, .str w] 1 = some (.int b) := rfl
    have ad : ∀ x y : Int, binD .Add (.int x) (.int y) = some (.fz (.int (x + y))) := fun _ _ => rfl
    refine ⟨_, [some .bag, some (.fz (.tuple ts)), some (.ow (.list xs)), some (.fz (.str n)), some (.fz g), some (.fz (.tuple hs)), some (.ow (.list (us ++ [.int (t + b)]))), some (.fz (.int (t + b))), some (.fz (.tuple [.int a, .int b, .str w]))], s1, rfl, ?_, rfl, us ++ [.int (t + b)], t + b, _, rfl, by rw [List.length_append, hu]; rfl, fun x hx => ?_⟩
    · simp only [bodyR1, runM, seqS, frzS, frzs, frz1, retF, retS, ifS, skipS, andE, orE, notE, ifE, valF, vE, vV, kE, kV', callF, ar_nil, ar_cons, dn_fz, dn_ow, dn_bag, dn_scr, d_fz, d_ow, b_of, isiF, isD, blF, cmpF, chainF, orElse, lenS, bltF1, notT, andT, orT, tstF, l_list, l_tuple, l_all, l_listL, l_listT, l_tupL, l_tupT, l_abs, c_lt, c_le, c_gt, c_ge, c_eqI, c_neI, c_inS, c_niS, i_list, i_tuple, i_str, x_list, x_tuple, plainF, ixF, ixS, asgF, unpF, unF, setAll, List.length_cons, List.length_nil, List.map_cons, List.map_nil, if_true, if_false, List.cons_append, List.nil_append, List.append_nil, List.getElem?_cons_zero, List.getElem?_cons_succ, List.replicate, List.set_cons_zero, List.set_cons_succ, Option.bind_some, Option.map_some, Option.bind_none, Option.map_none, Bool.not_true, Bool.not_false, Bool.false_eq_true, Bool.or_false, Bool.or_true, Nat.reduceAdd, Nat.reduceSub, Nat.zero_add, decide_true, decide_false, Bool.true_and, Bool.false_and, Bool.and_true, Bool.and_false, binF, ad, x1, appS, sz]
    · rcases List.mem_append.mp hx with hx | hx
      · exact hp x hx
      · rw [List.mem_singleton.mp hx]; exact ⟨_, rfl⟩) (by omega) ⟨rfl, [.int 0], 0, _, rfl, rfl, fun x hx => by rw [List.mem_singleton.mp hx]; exact ⟨_, rfl⟩⟩
  subst h2
  have hu0 : us ≠ [] := by
    intro e; rw [e] at h4; simp at h4
  obtain ⟨u, s1, q1, mu, b1⟩ := f_law_of (k := k) us hu0 (by omega) s0 hs'
  obtain ⟨i, s2, q2, _, _, b2⟩ := f_law_take (k := k + 1) 8 (by omega) (by omega) s1 b1
  obtain ⟨j, s3, q3, _, _, b3⟩ := f_law_take (k := k + 1) 200 (by omega) (by omega) s2 b2
  obtain ⟨l, s4, q4, l0, l4, b4⟩ := f_law_take (k := k + 1) 4 (by omega) (by omega) s3 b3
  obtain ⟨uu, rfl⟩ := h5 u mu
  have hc : ∃ c : Int, atI [PyData.int uu, .int i, .int j, .int 0] l = some (.int c) := by
    rcases (show l = 0 ∨ l = 1 ∨ l = 2 ∨ l = 3 by omega) with rfl | rfl | rfl | rfl <;> exact ⟨_, rfl⟩
  obtain ⟨c, hx'⟩ := hc
  unfold FF at q1 q2 q3 q4
  have sz : decide (xs.length < sizeLine) = true := decide_eq_true (by rw [sizeLine_eq]; omega)
  refine ⟨.int c, some (.fz (.list us)), some (.fz (.int t)), y8, s4, ?_, ⟨_, rfl⟩, b4⟩
  unfold bodyR
  rw [seq_nx (env1 := [some .bag, some (.fz (.tuple ts)), some (.ow (.list xs)), some (.fz (.str n)), some (.fz g), some (.fz (.tuple hs)), some (.ow (.list [.int 0])), some (.fz (.int 0)), z8]) (st1 := some s0) rfl]
  have fo : frzS [5] (forF (plainF (vE 5)) (setF 8) bodyR1) [some .bag, some (.fz (.tuple ts)), some (.ow (.list xs)), some (.fz (.str n)), some (.fz g), some (.fz (.tuple hs)), some (.ow (.list [.int 0])), some (.fz (.int 0)), z8] (some s0) = _ := h1
  refine (seq_nx fo).trans ?_
  have ls : lstF (argsF [(callF (tbl.F whR 60 (k + 2)) "_law_of" (argsF [(vE 0), (vE 6)])), (callF (tbl.F whR 60 (k + 2)) "_law_take" (argsF [(vE 0), (kE (.int 8))])), (callF (tbl.F whR 60 (k + 2)) "_law_take" (argsF [(vE 0), (kE (.int 200))])), (kE (.int 0))]) [some .bag, some (.fz (.tuple ts)), some (.ow (.list xs)), some (.fz (.str n)), some (.fz g), some (.fz (.tuple hs)), some (.fz (.list us)), some (.fz (.int t)), y8] (some s0) = some (.ow (.list [.int uu, .int i, .int j, .int 0]), some s3) := by
    simp only [lstF, runM, seqS, frzS, frzs, frz1, retF, retS, ifS, skipS, andE, orE, notE, ifE, valF, vE, vV, kE, kV', callF, ar_nil, ar_cons, dn_fz, dn_ow, dn_bag, dn_scr, d_fz, d_ow, b_of, isiF, isD, blF, cmpF, chainF, orElse, lenS, bltF1, notT, andT, orT, tstF, l_list, l_tuple, l_all, l_listL, l_listT, l_tupL, l_tupT, l_abs, c_lt, c_le, c_gt, c_ge, c_eqI, c_neI, c_inS, c_niS, i_list, i_tuple, i_str, x_list, x_tuple, plainF, ixF, ixS, asgF, unpF, unF, setAll, List.length_cons, List.length_nil, List.map_cons, List.map_nil, if_true, if_false, List.cons_append, List.nil_append, List.append_nil, List.getElem?_cons_zero, List.getElem?_cons_succ, List.replicate, List.set_cons_zero, List.set_cons_succ, Option.bind_some, Option.map_some, Option.bind_none, Option.map_none, Bool.not_true, Bool.not_false, Bool.false_eq_true, Bool.or_false, Bool.or_true, Nat.reduceAdd, Nat.reduceSub, Nat.zero_add, decide_true, decide_false, Bool.true_and, Bool.false_and, Bool.and_true, Bool.and_false, q1, q2, q3]
    rfl
  generalize [PyData.int uu, .int i, .int j, .int 0] = L at ls hx'
  simp only [runM, seqS, frzS, frzs, frz1, retF, retS, ifS, skipS, andE, orE, notE, ifE, valF, vE, vV, kE, kV', callF, ar_nil, ar_cons, dn_fz, dn_ow, dn_bag, dn_scr, d_fz, d_ow, b_of, isiF, isD, blF, cmpF, chainF, orElse, lenS, bltF1, notT, andT, orT, tstF, l_list, l_tuple, l_all, l_listL, l_listT, l_tupL, l_tupT, l_abs, c_lt, c_le, c_gt, c_ge, c_eqI, c_neI, c_inS, c_niS, i_list, i_tuple, i_str, x_list, x_tuple, plainF, ixF, ixS, asgF, unpF, unF, setAll, List.length_cons, List.length_nil, List.map_cons, List.map_nil, if_true, if_false, List.cons_append, List.nil_append, List.append_nil, List.getElem?_cons_zero, List.getElem?_cons_succ, List.replicate, List.set_cons_zero, List.set_cons_succ, Option.bind_some, Option.map_some, Option.bind_none, Option.map_none, Bool.not_true, Bool.not_false, Bool.false_eq_true, Bool.or_false, Bool.or_true, Nat.reduceAdd, Nat.reduceSub, Nat.zero_add, decide_true, decide_false, Bool.true_and, Bool.false_and, Bool.and_true, Bool.and_false, ls, q4, hx', appS, sz]
theorem f_law_rain (ts : List D) (ht : ∀ d ∈ ts, tubSh d) (hl : ts.length ≤ 100) (s : Int × Int) (hs : bgOk s) : ∃ (xs : List D) (s' : Int × Int), FF (k + 3) "_law_rain" [.bag, .fz (.tuple ts)] (some s) = some (.fz (.tuple xs), some s') ∧ xs.length = ts.length ∧ (∀ x ∈ xs, isI x) ∧ bgOk s' := by
  unfold FF
  rw [e__law_rain]
  obtain ⟨env', s', h1, h2, xs, z3, z4, z5, z6, z7, z8, rfl, h4, h5⟩ := forL_inv (g := unF [3, 4, 5]) (f := bodyR k) (N := 100) (I := fun j env s => bgOk s ∧ ∃ xs z3 z4 z5 z6 z7 z8, env = [some .bag, some (.fz (.tuple ts)), some (.ow (.list xs)), z3, z4, z5, z6, z7, z8] ∧ xs.length = j ∧ (∀ x ∈ xs, isI x)) ts 0 [some .bag, some (.fz (.tuple ts)), some (.ow (.list [])), none, none, none, none, none, none] s (fun d hd j env s hj hI => by
    obtain ⟨b, xs, z3, z4, z5, z6, z7, z8, rfl, hx, hp⟩ := hI
    obtain ⟨n, g, hs', rfl, hl', hh⟩ := ht d hd
    obtain ⟨y, z, z', z'', s', q1, q2, q3⟩ := bodyR_ok (k := k) ts xs hs' n g z6 z7 z8 hl' hh hp (by omega) s b
    refine ⟨_, _, s', rfl, q1, q3, xs ++ [y], _, _, _, _, _, _, rfl, by rw [List.length_append, hx]; rfl, fun x hx => ?_⟩
    rcases List.mem_append.mp hx with hx | hx
    · exact hp x hx
    · rw [List.mem_singleton.mp hx]; exact q2) (by omega) ⟨hs, [], none, none, none, none, none, none, rfl, rfl, fun x hx => by cases hx⟩
  refine ⟨xs, s', ?_, by rw [h4, Nat.zero_add], h5, h2⟩
  refine run_rt (env1 := [some .bag, some (.fz (.tuple ts)), some (.ow (.list xs)), z3, z4, z5, z6, z7, z8]) rfl ?_
  have fo : frzS [1] (forF (plainF (vE 1)) (unF [3, 4, 5]) (bodyR k)) [some .bag, some (.fz (.tuple ts)), some (.ow (.list [])), none, none, none, none, none, none] (some s) = _ := h1
  unfold m__law_rain
  rw [seq_nx (env1 := [some .bag, some (.fz (.tuple ts)), some (.ow (.list [])), none, none, none, none, none, none]) (st1 := some s) rfl]
  refine (seq_nx fo).trans ?_
  refine seq_rt ?_
  simp only [runM, seqS, frzS, frzs, frz1, retF, retS, ifS, skipS, andE, orE, notE, ifE, valF, vE, vV, kE, kV', callF, ar_nil, ar_cons, dn_fz, dn_ow, dn_bag, dn_scr, d_fz, d_ow, b_of, isiF, isD, blF, cmpF, chainF, orElse, lenS, bltF1, notT, andT, orT, tstF, l_list, l_tuple, l_all, l_listL, l_listT, l_tupL, l_tupT, l_abs, c_lt, c_le, c_gt, c_ge, c_eqI, c_neI, c_inS, c_niS, i_list, i_tuple, i_str, x_list, x_tuple, plainF, ixF, ixS, asgF, unpF, unF, setAll, List.length_cons, List.length_nil, List.map_cons, List.map_nil, if_true, if_false, List.cons_append, List.nil_append, List.append_nil, List.getElem?_cons_zero, List.getElem?_cons_succ, List.replicate, List.set_cons_zero, List.set_cons_succ, Option.bind_some, Option.map_some, Option.bind_none, Option.map_none, Bool.not_true, Bool.not_false, Bool.false_eq_true, Bool.or_false, Bool.or_true, Nat.reduceAdd, Nat.reduceSub, Nat.zero_add, decide_true, decide_false, Bool.true_and, Bool.false_and, Bool.and_true, Bool.and_false]
end K01

set_option maxHeartbeats 4000000
namespace K01
open PySem PySem.Spec PyProof.Rows L2 Iv
variable {k : Nat}
/-! ### makers, by what is wanted of them -/
structure Hl where
  h : Nat
  r : Nat
  to : Str
def Hl.d (x : Hl) : D := .tuple [.int x.h, .int x.r, .str x.to]
structure Tb where
  n : Str
  g : Nat
  hs : List Hl
def Tb.d (t : Tb) : D := .tuple [.str t.n, .int t.g, .tuple (t.hs.map Hl.d)]
structure GoodHs (later : List Str) (hs : List Hl) : Prop where
  len : hs.length ≤ 3
  up : hs.Pairwise fun a b => a.h < b.h
  hi : ∀ x ∈ hs, x.h ≤ 1000
  lo : ∀ x ∈ hs, 1 ≤ x.r
  ra : ∀ x ∈ hs, x.r ≤ 100
  to : ∀ x ∈ hs, x.to = "" ∨ x.to ∈ later
structure GoodT (later : List Str) (t : Tb) : Prop where
  g0 : 1 ≤ t.g
  g1 : t.g ≤ 30
  hs : GoodHs later t.hs
def nls : List (List Str) := [["ann", "bo", "cy"], ["cy", "ann", "bo"]]
structure GoodTs (ts : List Tb) : Prop where
  pos : 1 ≤ ts.length
  len : ts.length ≤ 3
  nm : ∃ nl ∈ nls, ts.map Tb.n = nl.take ts.length
  tb : ∀ (j : Nat) (t : Tb), ts[j]? = some t → GoodT ((ts.map Tb.n).drop (j + 1)) t
theorem w_take {m : Int} {s : Int × Int} {Q : R × BSt → Prop} (hs : bgOk s) (hm : 0 < m) (hm' : m < 1152921504606846976) (q : ∀ i s', 0 ≤ i → i < m → bgOk s' → Q (.fz (.int i), some s')) : wp (tbl.F whR 60 (k + 1) "_law_take" [.bag, .fz (.int m)] (some s)) Q := by
  obtain ⟨i, s', h1, h2, h3, h4⟩ := f_law_take (k := k) m hm hm' s hs
  exact wp_eq h1 (q i s' h2 h3 h4)
theorem w_of {xs : List D} {s : Int × Int} {Q : R × BSt → Prop} (hs : bgOk s) (h0 : xs ≠ []) (hl : xs.length ≤ 1000000) (q : ∀ x s', x ∈ xs → bgOk s' → Q (.fz x, some s')) : wp (tbl.F whR 60 (k + 2) "_law_of" [.bag, .fz (.list xs)] (some s)) Q := by
  obtain ⟨x, s', h1, h2, h3⟩ := f_law_of (k := k) xs h0 hl s hs
  exact wp_eq h1 (q x s' h2 h3)
theorem wp_at {xs : List D} {i : Int} {Q : D → Prop} (h0 : 0 ≤ i) (h1 : i < (xs.length : Int)) (q : ∀ x ∈ xs, Q x) : wp (atI xs i) Q := by
  have hi : i.toNat < xs.length := by omega
  have hx : atI xs i = some xs[i.toNat] := by
    have := atI_nat (xs := xs) (j := i.toNat) (v := xs[i.toNat]) (List.getElem?_eq_getElem hi)
    rw [show ((i.toNat : Nat) : Int) = i from by omega] at this
    exact this
  exact wp_eq hx (q _ (List.getElem_mem hi))
theorem b_add (x y : Int) : binD .Add (.int x) (.int y) = some (.fz (.int (x + y))) := rfl
theorem b_sub (x y : Int) : binD .Sub (.int x) (.int y) = some (.fz (.int (x - y))) := rfl
theorem b_addL {xs ys : List D} (h : xs.length + ys.length ≤ 16777216) : binD .Add (.list xs) (.list ys) = some (.ow (.list (xs ++ ys))) := by
  show (if lenOk _ then _ else none) = _
  rw [lenOk_of h]; rfl
theorem b_addT {xs ys : List D} (h : xs.length + ys.length ≤ 16777216) : binD .Add (.tuple xs) (.tuple ys) = some (.fz (.tuple (xs ++ ys))) := by
  show (if lenOk _ then _ else none) = _
  rw [lenOk_of h]; rfl
/-! sorting -/
theorem isort_mem (z : Int) (l : List Int) : z ∈ isort l ↔ z ∈ l := (isort_perm l).mem_iff
/-- the keys of a dict that is used as a set of numbers -/
structure KeySet (kds : List (D × D)) (ks : List Int) : Prop where
  eq : kds = ks.map fun i => (.int i, .bool true)
  nd : ks.Nodup
theorem keySet_nil : KeySet [] [] := ⟨rfl, .nil⟩
theorem keysI_set (ks : List Int) : keysI (ks.map fun i => (PyData.int i, PyData.bool true)) = some ks := by
  induction ks with
  | nil => rfl
  | cons i ks ih => simp only [List.map_cons, keysI, ih]; rfl
theorem any_keys (ks : List Int) (n : Int) : ((ks.map fun i => ((PyData.int i, PyData.bool true) : D × D)).any fun kv => decide (Iv.keyOf kv.1 = some (.inl n))) = decide (n ∈ ks) := by
  induction ks with
  | nil => rfl
  | cons i ks ih =>
    rw [List.map_cons, List.any_cons, ih]
    show (decide (some (Sum.inl i : Key) = some (.inl n)) || decide (n ∈ ks)) = _
    by_cases h : i = n
    · subst h; simp
    · have : ¬ n = i := fun z => h z.symm
      have h2 : ¬ (some (Sum.inl i : Key) = some (.inl n)) := fun z => h (by cases z; rfl)
      rw [decide_eq_false h2]
      simp [this]
theorem keySet_put {kds : List (D × D)} {ks : List Int} (h : KeySet kds ks) (n : Int) : ∃ ks', KeySet (putD kds (.inl n) (.bool true)) ks' ∧ (∀ i, i ∈ ks' ↔ i ∈ ks ∨ i = n) ∧ ks'.length ≤ ks.length + 1 := by
  obtain ⟨rfl, nd⟩ := h
  unfold putD
  rw [any_keys]
  by_cases hn : n ∈ ks
  · rw [decide_eq_true hn, if_pos rfl]
    refine ⟨ks, ⟨?_, nd⟩, fun i => ⟨.inl, fun z => z.elim id fun z => z ▸ hn⟩, by omega⟩
    rw [List.map_map]
    refine List.map_congr_left fun i hi => ?_
    show (if Iv.keyOf (PyData.int i) = some (.inl n) then (PyData.int i, PyData.bool true) else (PyData.int i, PyData.bool true)) = _
    split <;> rfl
  · rw [decide_eq_false hn, if_neg (by simp)]
    refine ⟨ks ++ [n], ⟨by rw [List.map_append]; rfl, ?_⟩, fun i => by simp, by simp⟩
    rw [List.nodup_append]
    refine ⟨nd, by simp, fun a ha b hb => ?_⟩
    rw [List.mem_singleton.mp hb]
    exact fun z => hn (z ▸ ha)
theorem isort_lt {ks : List Int} (h : ks.Nodup) : (isort ks).Pairwise (· < ·) := by
  have h1 := isort_sorted ks
  have h2 : (isort ks).Nodup := (isort_perm ks).nodup_iff.mpr h
  exact (h1.and h2).imp fun ⟨a, b⟩ => by omega
end K01

set_option maxHeartbeats 4000000
namespace K01
open PySem PySem.Spec PyProof.Rows L2 Iv
variable {k : Nat}
theorem enum_get {ds : List D} {n i : Nat} {x : D} (h : (enumD n ds)[i]? = some x) : ∃ d, ds[i]? = some d ∧ x = .tuple [.int ((n + i : Nat) : Int), d] := by
  have hl : i < ds.length := by
    have := (List.getElem?_eq_some_iff.mp h).1
    rwa [enumD_len] at this
  have e := enumD_get ds n i (List.getElem?_eq_getElem hl)
  rw [h] at e
  exact ⟨_, List.getElem?_eq_getElem hl, Option.some.inj e⟩
theorem w_tubs {s : Int × Int} {Q : R × BSt → Prop} (hs : bgOk s) (q : ∀ ts s', GoodTs ts → bgOk s' → Q (.fz (.tuple (ts.map Tb.d)), some s')) : wp (tbl.F whR 60 (k + 3) "_law_tubs" [.bag, .fz (.int 3)] (some s)) Q := by
  rw [e__law_tubs]
  refine wp_run rfl ?_
  unfold m__law_tubs
  refine wp_seq ?_
  try simp only [frzS, frzs, frz1, retF, retS, ifS, skipS, andE, orE, notE, ifE, valF, vE, vV, kE, kV', callF, ar_nil, ar_cons, dn_fz, dn_ow, dn_bag, dn_scr, d_fz, d_ow, b_of, isiF, isD, blF, cmpF, chainF, orElse, lenS, bltF1, notT, andT, orT, tstF, l_list, l_tuple, l_all, l_listL, l_listT, l_tupL, l_tupT, l_abs, c_lt, c_le, c_gt, c_ge, c_eqI, c_neI, c_inS, c_niS, i_list, i_tuple, i_str, x_list, x_tuple, plainF, ixF, ixS, asgF, unpF, unF, setAll, List.length_cons, List.length_nil, List.map_cons, List.map_nil, if_true, if_false, List.cons_append, List.nil_append, List.append_nil, List.getElem?_cons_zero, List.getElem?_cons_succ, List.replicate, List.set_cons_zero, List.set_cons_succ, Option.bind_some, Option.map_some, Option.bind_none, Option.map_none, Bool.not_true, Bool.not_false, Bool.false_eq_true, Bool.or_false, Bool.or_true, Nat.reduceAdd, Nat.reduceSub, Nat.zero_add, decide_true, decide_false, Bool.true_and, Bool.false_and, Bool.and_true, Bool.and_false, wp_some, wp_none, wp_bind, wp_map, wp_if, binF, slF, partF, negE, y_list, y_tuple, lstF, tupF, ds_nil, ds_fz, setF, setS, appS, par2F, par3F, wp_frz, dict0, dict1, Iv.keyOf, kD, flatD, upF, revF, bltF2, swS, isiF2, lenOk_of, Nat.reduceLeDiff, b_add, b_sub]
  refine w_of hs (by simp) (by simp) fun x s1 hx b1 => ?_
  have hx : ∃ nl ∈ nls, x = .list (nl.map .str) := by
    rcases List.mem_cons.mp hx with rfl | hx
    · exact ⟨_, List.mem_cons_self, rfl⟩
    · rw [List.mem_singleton.mp hx]; exact ⟨_, List.mem_cons_of_mem _ List.mem_cons_self, rfl⟩
  obtain ⟨nl, hnl, rfl⟩ := hx
  try simp only [frzS, frzs, frz1, retF, retS, ifS, skipS, andE, orE, notE, ifE, valF, vE, vV, kE, kV', callF, ar_nil, ar_cons, dn_fz, dn_ow, dn_bag, dn_scr, d_fz, d_ow, b_of, isiF, isD, blF, cmpF, chainF, orElse, lenS, bltF1, notT, andT, orT, tstF, l_list, l_tuple, l_all, l_listL, l_listT, l_tupL, l_tupT, l_abs, c_lt, c_le, c_gt, c_ge, c_eqI, c_neI, c_inS, c_niS, i_list, i_tuple, i_str, x_list, x_tuple, plainF, ixF, ixS, asgF, unpF, unF, setAll, List.length_cons, List.length_nil, List.map_cons, List.map_nil, if_true, if_false, List.cons_append, List.nil_append, List.append_nil, List.getElem?_cons_zero, List.getElem?_cons_succ, List.replicate, List.set_cons_zero, List.set_cons_succ, Option.bind_some, Option.map_some, Option.bind_none, Option.map_none, Bool.not_true, Bool.not_false, Bool.false_eq_true, Bool.or_false, Bool.or_true, Nat.reduceAdd, Nat.reduceSub, Nat.zero_add, decide_true, decide_false, Bool.true_and, Bool.false_and, Bool.and_true, Bool.and_false, wp_some, wp_none, wp_bind, wp_map, wp_if, binF, slF, partF, negE, y_list, y_tuple, lstF, tupF, ds_nil, ds_fz, setF, setS, appS, par2F, par3F, wp_frz, dict0, dict1, Iv.keyOf, kD, flatD, upF, revF, bltF2, swS, isiF2, lenOk_of, Nat.reduceLeDiff, b_add, b_sub]
  refine w_take b1 (by omega) (by omega) fun i s2 i0 i1 b2 => ?_
  obtain ⟨n, hn, n1, n3⟩ : ∃ n : Nat, 1 + i = (n : Int) ∧ 1 ≤ n ∧ n ≤ 3 := ⟨(1 + i).toNat, by omega, by omega, by omega⟩
  simp only [frzS, frzs, frz1, retF, retS, ifS, skipS, andE, orE, notE, ifE, valF, vE, vV, kE, kV', callF, ar_nil, ar_cons, dn_fz, dn_ow, dn_bag, dn_scr, d_fz, d_ow, b_of, isiF, isD, blF, cmpF, chainF, orElse, lenS, bltF1, notT, andT, orT, tstF, l_list, l_tuple, l_all, l_listL, l_listT, l_tupL, l_tupT, l_abs, c_lt, c_le, c_gt, c_ge, c_eqI, c_neI, c_inS, c_niS, i_list, i_tuple, i_str, x_list, x_tuple, plainF, ixF, ixS, asgF, unpF, unF, setAll, List.length_cons, List.length_nil, List.map_cons, List.map_nil, if_true, if_false, List.cons_append, List.nil_append, List.append_nil, List.getElem?_cons_zero, List.getElem?_cons_succ, List.replicate, List.set_cons_zero, List.set_cons_succ, Option.bind_some, Option.map_some, Option.bind_none, Option.map_none, Bool.not_true, Bool.not_false, Bool.false_eq_true, Bool.or_false, Bool.or_true, Nat.reduceAdd, Nat.reduceSub, Nat.zero_add, decide_true, decide_false, Bool.true_and, Bool.false_and, Bool.and_true, Bool.and_false, wp_some, wp_none, wp_bind, wp_map, wp_if, binF, slF, partF, negE, y_list, y_tuple, lstF, tupF, ds_nil, ds_fz, setF, setS, appS, par2F, par3F, wp_frz, dict0, dict1, Iv.keyOf, kD, flatD, upF, revF, bltF2, swS, isiF2, lenOk_of, Nat.reduceLeDiff, b_add, b_sub, hn, cut_take, ← List.map_take]
  have hnl3 : nl.length = 3 := by
    unfold nls at hnl
    rcases List.mem_cons.mp hnl with rfl | hnl
    · rfl
    · rw [List.mem_singleton.mp hnl]; rfl
  obtain ⟨names, hnames, hlen⟩ : ∃ names, names = nl.take n ∧ names.length = n := ⟨_, rfl, by rw [List.length_take]; omega⟩
  rw [← hnames]
  refine wp_seq ?_
  try simp only [frzS, frzs, frz1, retF, retS, ifS, skipS, andE, orE, notE, ifE, valF, vE, vV, kE, kV', callF, ar_nil, ar_cons, dn_fz, dn_ow, dn_bag, dn_scr, d_fz, d_ow, b_of, isiF, isD, blF, cmpF, chainF, orElse, lenS, bltF1, notT, andT, orT, tstF, l_list, l_tuple, l_all, l_listL, l_listT, l_tupL, l_tupT, l_abs, c_lt, c_le, c_gt, c_ge, c_eqI, c_neI, c_inS, c_niS, i_list, i_tuple, i_str, x_list, x_tuple, plainF, ixF, ixS, asgF, unpF, unF, setAll, List.length_cons, List.length_nil, List.map_cons, List.map_nil, if_true, if_false, List.cons_append, List.nil_append, List.append_nil, List.getElem?_cons_zero, List.getElem?_cons_succ, List.replicate, List.set_cons_zero, List.set_cons_succ, Option.bind_some, Option.map_some, Option.bind_none, Option.map_none, Bool.not_true, Bool.not_false, Bool.false_eq_true, Bool.or_false, Bool.or_true, Nat.reduceAdd, Nat.reduceSub, Nat.zero_add, decide_true, decide_false, Bool.true_and, Bool.false_and, Bool.and_true, Bool.and_false, wp_some, wp_none, wp_bind, wp_map, wp_if, binF, slF, partF, negE, y_list, y_tuple, lstF, tupF, ds_nil, ds_fz, setF, setS, appS, par2F, par3F, wp_frz, dict0, dict1, Iv.keyOf, kD, flatD, upF, revF, bltF2, swS, isiF2, lenOk_of, Nat.reduceLeDiff, b_add, b_sub]
  refine wp_seq ?_
  simp only [wp_frz, frzs, frz1, List.getElem?_cons_zero, List.getElem?_cons_succ, List.set_cons_zero, List.set_cons_succ]
  refine wp_for (ds := enumD 0 (names.map .str)) (st1 := some s2) (I := fun i env st => ∃ s ts z4 z5 z6 z7 z8 z9 z10 z11, bgOk s ∧ st = some s ∧ env = [some .bag, some (.fz (.int 3)), some (.fz (.list (names.map .str))), some (.ow (.list (ts.map Tb.d))), z4, z5, z6, z7, z8, z9, z10, z11] ∧ ts.length = i ∧ ∀ (j : Nat) (t : Tb), ts[j]? = some t → names[j]? = some t.n ∧ GoodT (names.drop (j + 1)) t) rfl ⟨s2, [], _, _, _, _, _, _, _, _, b2, rfl, rfl, rfl, fun j t h => by simp at h⟩ ?body ?rest
  case rest =>
    rintro env st ⟨s3, ts, z4, z5, z6, z7, z8, z9, z10, z11, b3, rfl, rfl, hl, hg⟩
    rw [enumD_len, List.length_map, hlen] at hl
    refine wp_seq ?_
    try simp only [frzS, frzs, frz1, retF, retS, ifS, skipS, andE, orE, notE, ifE, valF, vE, vV, kE, kV', callF, ar_nil, ar_cons, dn_fz, dn_ow, dn_bag, dn_scr, d_fz, d_ow, b_of, isiF, isD, blF, cmpF, chainF, orElse, lenS, bltF1, notT, andT, orT, tstF, l_list, l_tuple, l_all, l_listL, l_listT, l_tupL, l_tupT, l_abs, c_lt, c_le, c_gt, c_ge, c_eqI, c_neI, c_inS, c_niS, i_list, i_tuple, i_str, x_list, x_tuple, plainF, ixF, ixS, asgF, unpF, unF, setAll, List.length_cons, List.length_nil, List.map_cons, List.map_nil, if_true, if_false, List.cons_append, List.nil_append, List.append_nil, List.getElem?_cons_zero, List.getElem?_cons_succ, List.replicate, List.set_cons_zero, List.set_cons_succ, Option.bind_some, Option.map_some, Option.bind_none, Option.map_none, Bool.not_true, Bool.not_false, Bool.false_eq_true, Bool.or_false, Bool.or_true, Nat.reduceAdd, Nat.reduceSub, Nat.zero_add, decide_true, decide_false, Bool.true_and, Bool.false_and, Bool.and_true, Bool.and_false, wp_some, wp_none, wp_bind, wp_map, wp_if, binF, slF, partF, negE, y_list, y_tuple, lstF, tupF, ds_nil, ds_fz, setF, setS, appS, par2F, par3F, wp_frz, dict0, dict1, Iv.keyOf, kD, flatD, upF, revF, bltF2, swS, isiF2, lenOk_of, Nat.reduceLeDiff, b_add, b_sub]
    refine q ts s3 ⟨by omega, by omega, ⟨nl, hnl, ?_⟩, ?_⟩ b3
    · rw [hl, ← hnames]
      refine List.ext_getElem? fun j => ?_
      rw [List.getElem?_map]
      cases hj : ts[j]? with
      | none =>
        have := List.getElem?_eq_none_iff.mp hj
        rw [List.getElem?_eq_none (by omega)]; rfl
      | some t => rw [(hg j t hj).1]; rfl
    · have e : ts.map Tb.n = names := by
        refine List.ext_getElem? fun j => ?_
        rw [List.getElem?_map]
        cases hj : ts[j]? with
        | none =>
          have := List.getElem?_eq_none_iff.mp hj
          rw [List.getElem?_eq_none (by omega)]; rfl
        | some t => rw [(hg j t hj).1]; rfl
      rw [e]
      exact fun j t h => (hg j t h).2
  case body =>
    rintro i d env st hd ⟨s3, ts, z4, z5, z6, z7, z8, z9, z10, z11, b3, rfl, rfl, hl, hg⟩
    obtain ⟨d, hd1, rfl⟩ := enum_get hd
    rw [List.getElem?_map] at hd1
    obtain ⟨nm, hd2, rfl⟩ := map1 hd1
    rw [Nat.zero_add]
    refine ⟨_, rfl, ?_⟩
    refine wp_seq ?_
    try simp only [frzS, frzs, frz1, retF, retS, ifS, skipS, andE, orE, notE, ifE, valF, vE, vV, kE, kV', callF, ar_nil, ar_cons, dn_fz, dn_ow, dn_bag, dn_scr, d_fz, d_ow, b_of, isiF, isD, blF, cmpF, chainF, orElse, lenS, bltF1, notT, andT, orT, tstF, l_list, l_tuple, l_all, l_listL, l_listT, l_tupL, l_tupT, l_abs, c_lt, c_le, c_gt, c_ge, c_eqI, c_neI, c_inS, c_niS, i_list, i_tuple, i_str, x_list, x_tuple, plainF, ixF, ixS, asgF, unpF, unF, setAll, List.length_cons, List.length_nil, List.map_cons, List.map_nil, if_true, if_false, List.cons_append, List.nil_append, List.append_nil, List.getElem?_cons_zero, List.getElem?_cons_succ, List.replicate, List.set_cons_zero, List.set_cons_succ, Option.bind_some, Option.map_some, Option.bind_none, Option.map_none, Bool.not_true, Bool.not_false, Bool.false_eq_true, Bool.or_false, Bool.or_true, Nat.reduceAdd, Nat.reduceSub, Nat.zero_add, decide_true, decide_false, Bool.true_and, Bool.false_and, Bool.and_true, Bool.and_false, wp_some, wp_none, wp_bind, wp_map, wp_if, binF, slF, partF, negE, y_list, y_tuple, lstF, tupF, ds_nil, ds_fz, setF, setS, appS, par2F, par3F, wp_frz, dict0, dict1, Iv.keyOf, kD, flatD, upF, revF, bltF2, swS, isiF2, lenOk_of, Nat.reduceLeDiff, b_add, b_sub]
    refine wp_seq ?_
    try simp only [frzS, frzs, frz1, retF, retS, ifS, skipS, andE, orE, notE, ifE, valF, vE, vV, kE, kV', callF, ar_nil, ar_cons, dn_fz, dn_ow, dn_bag, dn_scr, d_fz, d_ow, b_of, isiF, isD, blF, cmpF, chainF, orElse, lenS, bltF1, notT, andT, orT, tstF, l_list, l_tuple, l_all, l_listL, l_listT, l_tupL, l_tupT, l_abs, c_lt, c_le, c_gt, c_ge, c_eqI, c_neI, c_inS, c_niS, i_list, i_tuple, i_str, x_list, x_tuple, plainF, ixF, ixS, asgF, unpF, unF, setAll, List.length_cons, List.length_nil, List.map_cons, List.map_nil, if_true, if_false, List.cons_append, List.nil_append, List.append_nil, List.getElem?_cons_zero, List.getElem?_cons_succ, List.replicate, List.set_cons_zero, List.set_cons_succ, Option.bind_some, Option.map_some, Option.bind_none, Option.map_none, Bool.not_true, Bool.not_false, Bool.false_eq_true, Bool.or_false, Bool.or_true, Nat.reduceAdd, Nat.reduceSub, Nat.zero_add, decide_true, decide_false, Bool.true_and, Bool.false_and, Bool.and_true, Bool.and_false, wp_some, wp_none, wp_bind, wp_map, wp_if, binF, slF, partF, negE, y_list, y_tuple, lstF, tupF, ds_nil, ds_fz, setF, setS, appS, par2F, par3F, wp_frz, dict0, dict1, Iv.keyOf, kD, flatD, upF, revF, bltF2, swS, isiF2, lenOk_of, Nat.reduceLeDiff, b_add, b_sub]
    refine w_take b3 (by omega) (by omega) fun i1 s4 _ _ b4 => ?_
    try simp only [frzS, frzs, frz1, retF, retS, ifS, skipS, andE, orE, notE, ifE, valF, vE, vV, kE, kV', callF, ar_nil, ar_cons, dn_fz, dn_ow, dn_bag, dn_scr, d_fz, d_ow, b_of, isiF, isD, blF, cmpF, chainF, orElse, lenS, bltF1, notT, andT, orT, tstF, l_list, l_tuple, l_all, l_listL, l_listT, l_tupL, l_tupT, l_abs, c_lt, c_le, c_gt, c_ge, c_eqI, c_neI, c_inS, c_niS, i_list, i_tuple, i_str, x_list, x_tuple, plainF, ixF, ixS, asgF, unpF, unF, setAll, List.length_cons, List.length_nil, List.map_cons, List.map_nil, if_true, if_false, List.cons_append, List.nil_append, List.append_nil, List.getElem?_cons_zero, List.getElem?_cons_succ, List.replicate, List.set_cons_zero, List.set_cons_succ, Option.bind_some, Option.map_some, Option.bind_none, Option.map_none, Bool.not_true, Bool.not_false, Bool.false_eq_true, Bool.or_false, Bool.or_true, Nat.reduceAdd, Nat.reduceSub, Nat.zero_add, decide_true, decide_false, Bool.true_and, Bool.false_and, Bool.and_true, Bool.and_false, wp_some, wp_none, wp_bind, wp_map, wp_if, binF, slF, partF, negE, y_list, y_tuple, lstF, tupF, ds_nil, ds_fz, setF, setS, appS, par2F, par3F, wp_frz, dict0, dict1, Iv.keyOf, kD, flatD, upF, revF, bltF2, swS, isiF2, lenOk_of, Nat.reduceLeDiff, b_add, b_sub]
    refine wp_at (by omega) (by simp; omega) fun x hx => ?_
    obtain ⟨wd, rfl, hw0, hw1⟩ : ∃ wd : Int, x = .int wd ∧ 0 < wd ∧ wd ≤ 1001 := by
      simp only [List.mem_cons, List.not_mem_nil, or_false] at hx
      rcases hx with rfl | rfl | rfl <;> exact ⟨_, rfl, by omega, by omega⟩
    try simp only [frzS, frzs, frz1, retF, retS, ifS, skipS, andE, orE, notE, ifE, valF, vE, vV, kE, kV', callF, ar_nil, ar_cons, dn_fz, dn_ow, dn_bag, dn_scr, d_fz, d_ow, b_of, isiF, isD, blF, cmpF, chainF, orElse, lenS, bltF1, notT, andT, orT, tstF, l_list, l_tuple, l_all, l_listL, l_listT, l_tupL, l_tupT, l_abs, c_lt, c_le, c_gt, c_ge, c_eqI, c_neI, c_inS, c_niS, i_list, i_tuple, i_str, x_list, x_tuple, plainF, ixF, ixS, asgF, unpF, unF, setAll, List.length_cons, List.length_nil, List.map_cons, List.map_nil, if_true, if_false, List.cons_append, List.nil_append, List.append_nil, List.getElem?_cons_zero, List.getElem?_cons_succ, List.replicate, List.set_cons_zero, List.set_cons_succ, Option.bind_some, Option.map_some, Option.bind_none, Option.map_none, Bool.not_true, Bool.not_false, Bool.false_eq_true, Bool.or_false, Bool.or_true, Nat.reduceAdd, Nat.reduceSub, Nat.zero_add, decide_true, decide_false, Bool.true_and, Bool.false_and, Bool.and_true, Bool.and_false, wp_some, wp_none, wp_bind, wp_map, wp_if, binF, slF, partF, negE, y_list, y_tuple, lstF, tupF, ds_nil, ds_fz, setF, setS, appS, par2F, par3F, wp_frz, dict0, dict1, Iv.keyOf, kD, flatD, upF, revF, bltF2, swS, isiF2, lenOk_of, Nat.reduceLeDiff, b_add, b_sub]
    refine wp_seq ?_
    simp only [wp_frz, frzs, frz1, List.getElem?_cons_zero, List.getElem?_cons_succ, List.set_cons_zero, List.set_cons_succ]
    refine wp_forI (wp_range ?_)
    try simp only [frzS, frzs, frz1, retF, retS, ifS, skipS, andE, orE, notE, ifE, valF, vE, vV, kE, kV', callF, ar_nil, ar_cons, dn_fz, dn_ow, dn_bag, dn_scr, d_fz, d_ow, b_of, isiF, isD, blF, cmpF, chainF, orElse, lenS, bltF1, notT, andT, orT, tstF, l_list, l_tuple, l_all, l_listL, l_listT, l_tupL, l_tupT, l_abs, c_lt, c_le, c_gt, c_ge, c_eqI, c_neI, c_inS, c_niS, i_list, i_tuple, i_str, x_list, x_tuple, plainF, ixF, ixS, asgF, unpF, unF, setAll, List.length_cons, List.length_nil, List.map_cons, List.map_nil, if_true, if_false, List.cons_append, List.nil_append, List.append_nil, List.getElem?_cons_zero, List.getElem?_cons_succ, List.replicate, List.set_cons_zero, List.set_cons_succ, Option.bind_some, Option.map_some, Option.bind_none, Option.map_none, Bool.not_true, Bool.not_false, Bool.false_eq_true, Bool.or_false, Bool.or_true, Nat.reduceAdd, Nat.reduceSub, Nat.zero_add, decide_true, decide_false, Bool.true_and, Bool.false_and, Bool.and_true, Bool.and_false, wp_some, wp_none, wp_bind, wp_map, wp_if, binF, slF, partF, negE, y_list, y_tuple, lstF, tupF, ds_nil, ds_fz, setF, setS, appS, par2F, par3F, wp_frz, dict0, dict1, Iv.keyOf, kD, flatD, upF, revF, bltF2, swS, isiF2, lenOk_of, Nat.reduceLeDiff, b_add, b_sub]
    refine w_take b4 (by omega) (by omega) fun i2 s5 _ _ b5 => ?_
    refine ⟨_, rfl, i2, rfl, by omega, by omega, ?_⟩
    refine wp_fl (fun c env st => ∃ s kds ks z8, bgOk s ∧ st = some s ∧ env = [some .bag, some (.fz (.int 3)), some (.fz (.list (names.map .str))), some (.ow (.list (ts.map Tb.d))), some (.fz (.int (i : Nat))), some (.fz (.str nm)), some (.ow (.dict kds)), some (.fz (.int wd)), z8, z9, z10, z11] ∧ KeySet kds ks ∧ ks.length ≤ c ∧ ∀ x ∈ ks, 0 ≤ x ∧ x < wd) ⟨s5, [], [], _, b5, rfl, rfl, keySet_nil, Nat.le_refl _, fun x hx => by cases hx⟩ ?b2 ?r2
    case b2 =>
      rintro c d env st hc ⟨s6, kds, ks, z8, b6, rfl, rfl, hK, hkl, hkb⟩
      refine ⟨_, rfl, ?_⟩
      refine wp_seq ?_
      try simp only [frzS, frzs, frz1, retF, retS, ifS, skipS, andE, orE, notE, ifE, valF, vE, vV, kE, kV', callF, ar_nil, ar_cons, dn_fz, dn_ow, dn_bag, dn_scr, d_fz, d_ow, b_of, isiF, isD, blF, cmpF, chainF, orElse, lenS, bltF1, notT, andT, orT, tstF, l_list, l_tuple, l_all, l_listL, l_listT, l_tupL, l_tupT, l_abs, c_lt, c_le, c_gt, c_ge, c_eqI, c_neI, c_inS, c_niS, i_list, i_tuple, i_str, x_list, x_tuple, plainF, ixF, ixS, asgF, unpF, unF, setAll, List.length_cons, List.length_nil, List.map_cons, List.map_nil, if_true, if_false, List.cons_append, List.nil_append, List.append_nil, List.getElem?_cons_zero, List.getElem?_cons_succ, List.replicate, List.set_cons_zero, List.set_cons_succ, Option.bind_some, Option.map_some, Option.bind_none, Option.map_none, Bool.not_true, Bool.not_false, Bool.false_eq_true, Bool.or_false, Bool.or_true, Nat.reduceAdd, Nat.reduceSub, Nat.zero_add, decide_true, decide_false, Bool.true_and, Bool.false_and, Bool.and_true, Bool.and_false, wp_some, wp_none, wp_bind, wp_map, wp_if, binF, slF, partF, negE, y_list, y_tuple, lstF, tupF, ds_nil, ds_fz, setF, setS, appS, par2F, par3F, wp_frz, dict0, dict1, Iv.keyOf, kD, flatD, upF, revF, bltF2, swS, isiF2, lenOk_of, Nat.reduceLeDiff, b_add, b_sub]
      refine w_take b6 (by omega) (by omega) fun i3 s7 h30 h31 b7 => ?_
      have hsz : kds.length < sizeLine := by
        rw [hK.eq, List.length_map, sizeLine_eq]
        have := (range_get hc).2
        omega
      try simp only [frzS, frzs, frz1, retF, retS, ifS, skipS, andE, orE, notE, ifE, valF, vE, vV, kE, kV', callF, ar_nil, ar_cons, dn_fz, dn_ow, dn_bag, dn_scr, d_fz, d_ow, b_of, isiF, isD, blF, cmpF, chainF, orElse, lenS, bltF1, notT, andT, orT, tstF, l_list, l_tuple, l_all, l_listL, l_listT, l_tupL, l_tupT, l_abs, c_lt, c_le, c_gt, c_ge, c_eqI, c_neI, c_inS, c_niS, i_list, i_tuple, i_str, x_list, x_tuple, plainF, ixF, ixS, asgF, unpF, unF, setAll, List.length_cons, List.length_nil, List.map_cons, List.map_nil, if_true, if_false, List.cons_append, List.nil_append, List.append_nil, List.getElem?_cons_zero, List.getElem?_cons_succ, List.replicate, List.set_cons_zero, List.set_cons_succ, Option.bind_some, Option.map_some, Option.bind_none, Option.map_none, Bool.not_true, Bool.not_false, Bool.false_eq_true, Bool.or_false, Bool.or_true, Nat.reduceAdd, Nat.reduceSub, Nat.zero_add, decide_true, decide_false, Bool.true_and, Bool.false_and, Bool.and_true, Bool.and_false, wp_some, wp_none, wp_bind, wp_map, wp_if, binF, slF, partF, negE, y_list, y_tuple, lstF, tupF, ds_nil, ds_fz, setF, setS, appS, par2F, par3F, wp_frz, dict0, dict1, Iv.keyOf, kD, flatD, upF, revF, bltF2, swS, isiF2, lenOk_of, Nat.reduceLeDiff, b_add, b_sub, hsz]
      obtain ⟨ks', hK', hm', hl'⟩ := keySet_put hK i3
      refine ⟨s7, _, ks', _, b7, rfl, rfl, hK', by omega, fun x hx => ?_⟩
      rcases (hm' x).mp hx with hx | rfl
      · exact hkb x hx
      · exact ⟨h30, h31⟩
    case r2 =>
      rintro env st ⟨s6, kds, ks, z8, b6, rfl, rfl, hK, hkl, hkb⟩
      rw [range_len] at hkl
      refine wp_seq ?_
      try simp only [frzS, frzs, frz1, retF, retS, ifS, skipS, andE, orE, notE, ifE, valF, vE, vV, kE, kV', callF, ar_nil, ar_cons, dn_fz, dn_ow, dn_bag, dn_scr, d_fz, d_ow, b_of, isiF, isD, blF, cmpF, chainF, orElse, lenS, bltF1, notT, andT, orT, tstF, l_list, l_tuple, l_all, l_listL, l_listT, l_tupL, l_tupT, l_abs, c_lt, c_le, c_gt, c_ge, c_eqI, c_neI, c_inS, c_niS, i_list, i_tuple, i_str, x_list, x_tuple, plainF, ixF, ixS, asgF, unpF, unF, setAll, List.length_cons, List.length_nil, List.map_cons, List.map_nil, if_true, if_false, List.cons_append, List.nil_append, List.append_nil, List.getElem?_cons_zero, List.getElem?_cons_succ, List.replicate, List.set_cons_zero, List.set_cons_succ, Option.bind_some, Option.map_some, Option.bind_none, Option.map_none, Bool.not_true, Bool.not_false, Bool.false_eq_true, Bool.or_false, Bool.or_true, Nat.reduceAdd, Nat.reduceSub, Nat.zero_add, decide_true, decide_false, Bool.true_and, Bool.false_and, Bool.and_true, Bool.and_false, wp_some, wp_none, wp_bind, wp_map, wp_if, binF, slF, partF, negE, y_list, y_tuple, lstF, tupF, ds_nil, ds_fz, setF, setS, appS, par2F, par3F, wp_frz, dict0, dict1, Iv.keyOf, kD, flatD, upF, revF, bltF2, swS, isiF2, lenOk_of, Nat.reduceLeDiff, b_add, b_sub]
      refine wp_seq ?_
      simp only [wp_frz, frzs]
      have so : blD1 .sorted (.dict kds) = some (.ow (.list ((isort ks).map .int))) := by
        show (keysI kds).bind _ = _
        rw [hK.eq, keysI_set]
        simp only [Option.bind_some]
        rw [if_pos (decide_eq_true (by omega))]
      have up := isort_lt hK.nd
      have mem : ∀ x ∈ isort ks, 0 ≤ x ∧ x < wd := fun x hx => hkb x ((isort_mem x ks).mp hx)
      have len : (isort ks).length = ks.length := (isort_perm ks).length_eq
      generalize isort ks = ls at so up mem len
      refine wp_for (ds := ls.map .int) (st1 := some s6) (I := fun c env st => ∃ (s : Int × Int) (hs : List Hl) (z10 z11 : Option R), bgOk s ∧ st = some s ∧ env = [some .bag, some (.fz (.int 3)), some (.fz (.list (names.map .str))), some (.ow (.list (ts.map Tb.d))), some (.fz (.int (i : Nat))), some (.fz (.str nm)), some (.ow (.dict kds)), some (.fz (.int wd)), z8, some (.ow (.list (hs.map Hl.d))), z10, z11] ∧ hs.map (fun x => (x.h : Int)) = ls.take c ∧ ∀ x ∈ hs, 1 ≤ x.r ∧ x.r ≤ 100 ∧ (x.to = "" ∨ x.to ∈ names.drop (i + 1))) ?i3 ⟨s6, [], _, _, b6, rfl, rfl, rfl, fun x hx => by cases hx⟩ ?b3 ?r3
      case i3 => simp only [frzS, frzs, frz1, retF, retS, ifS, skipS, andE, orE, notE, ifE, valF, vE, vV, kE, kV', callF, ar_nil, ar_cons, dn_fz, dn_ow, dn_bag, dn_scr, d_fz, d_ow, b_of, isiF, isD, blF, cmpF, chainF, orElse, lenS, bltF1, notT, andT, orT, tstF, l_list, l_tuple, l_all, l_listL, l_listT, l_tupL, l_tupT, l_abs, c_lt, c_le, c_gt, c_ge, c_eqI, c_neI, c_inS, c_niS, i_list, i_tuple, i_str, x_list, x_tuple, plainF, ixF, ixS, asgF, unpF, unF, setAll, List.length_cons, List.length_nil, List.map_cons, List.map_nil, if_true, if_false, List.cons_append, List.nil_append, List.append_nil, List.getElem?_cons_zero, List.getElem?_cons_succ, List.replicate, List.set_cons_zero, List.set_cons_succ, Option.bind_some, Option.map_some, Option.bind_none, Option.map_none, Bool.not_true, Bool.not_false, Bool.false_eq_true, Bool.or_false, Bool.or_true, Nat.reduceAdd, Nat.reduceSub, Nat.zero_add, decide_true, decide_false, Bool.true_and, Bool.false_and, Bool.and_true, Bool.and_false, wp_some, wp_none, wp_bind, wp_map, wp_if, binF, slF, partF, negE, y_list, y_tuple, lstF, tupF, ds_nil, ds_fz, setF, setS, appS, par2F, par3F, wp_frz, dict0, dict1, Iv.keyOf, kD, flatD, upF, revF, bltF2, swS, isiF2, lenOk_of, Nat.reduceLeDiff, b_add, b_sub, so]
      case b3 =>
        rintro c d env st hc ⟨s7, hs, z10, z11, b7, rfl, rfl, hh, hr⟩
        rw [List.getElem?_map] at hc
        obtain ⟨lv, hlv, rfl⟩ := map1 hc
        refine ⟨_, rfl, ?_⟩
        refine wp_seq ?_
        try simp only [frzS, frzs, frz1, retF, retS, ifS, skipS, andE, orE, notE, ifE, valF, vE, vV, kE, kV', callF, ar_nil, ar_cons, dn_fz, dn_ow, dn_bag, dn_scr, d_fz, d_ow, b_of, isiF, isD, blF, cmpF, chainF, orElse, lenS, bltF1, notT, andT, orT, tstF, l_list, l_tuple, l_all, l_listL, l_listT, l_tupL, l_tupT, l_abs, c_lt, c_le, c_gt, c_ge, c_eqI, c_neI, c_inS, c_niS, i_list, i_tuple, i_str, x_list, x_tuple, plainF, ixF, ixS, asgF, unpF, unF, setAll, List.length_cons, List.length_nil, List.map_cons, List.map_nil, if_true, if_false, List.cons_append, List.nil_append, List.append_nil, List.getElem?_cons_zero, List.getElem?_cons_succ, List.replicate, List.set_cons_zero, List.set_cons_succ, Option.bind_some, Option.map_some, Option.bind_none, Option.map_none, Bool.not_true, Bool.not_false, Bool.false_eq_true, Bool.or_false, Bool.or_true, Nat.reduceAdd, Nat.reduceSub, Nat.zero_add, decide_true, decide_false, Bool.true_and, Bool.false_and, Bool.and_true, Bool.and_false, wp_some, wp_none, wp_bind, wp_map, wp_if, binF, slF, partF, negE, y_list, y_tuple, lstF, tupF, ds_nil, ds_fz, setF, setS, appS, par2F, par3F, wp_frz, dict0, dict1, Iv.keyOf, kD, flatD, upF, revF, bltF2, swS, isiF2, lenOk_of, Nat.reduceLeDiff, b_add, b_sub]
        refine w_take b7 (by omega) (by omega) fun i4 s8 h40 h41 b8 => ?_
        try simp only [frzS, frzs, frz1, retF, retS, ifS, skipS, andE, orE, notE, ifE, valF, vE, vV, kE, kV', callF, ar_nil, ar_cons, dn_fz, dn_ow, dn_bag, dn_scr, d_fz, d_ow, b_of, isiF, isD, blF, cmpF, chainF, orElse, lenS, bltF1, notT, andT, orT, tstF, l_list, l_tuple, l_all, l_listL, l_listT, l_tupL, l_tupT, l_abs, c_lt, c_le, c_gt, c_ge, c_eqI, c_neI, c_inS, c_niS, i_list, i_tuple, i_str, x_list, x_tuple, plainF, ixF, ixS, asgF, unpF, unF, setAll, List.length_cons, List.length_nil, List.map_cons, List.map_nil, if_true, if_false, List.cons_append, List.nil_append, List.append_nil, List.getElem?_cons_zero, List.getElem?_cons_succ, List.replicate, List.set_cons_zero, List.set_cons_succ, Option.bind_some, Option.map_some, Option.bind_none, Option.map_none, Bool.not_true, Bool.not_false, Bool.false_eq_true, Bool.or_false, Bool.or_true, Nat.reduceAdd, Nat.reduceSub, Nat.zero_add, decide_true, decide_false, Bool.true_and, Bool.false_and, Bool.and_true, Bool.and_false, wp_some, wp_none, wp_bind, wp_map, wp_if, binF, slF, partF, negE, y_list, y_tuple, lstF, tupF, ds_nil, ds_fz, setF, setS, appS, par2F, par3F, wp_frz, dict0, dict1, Iv.keyOf, kD, flatD, upF, revF, bltF2, swS, isiF2, lenOk_of, Nat.reduceLeDiff, b_add, b_sub]
        refine wp_at (by omega) (by simp; omega) fun x hx => ?_
        obtain ⟨rt, rfl, hr0, hr1⟩ : ∃ rt : Int, x = .int rt ∧ 0 < rt ∧ rt ≤ 100 := by
          simp only [List.mem_cons, List.not_mem_nil, or_false] at hx
          rcases hx with rfl | rfl <;> exact ⟨_, rfl, by omega, by omega⟩
        try simp only [frzS, frzs, frz1, retF, retS, ifS, skipS, andE, orE, notE, ifE, valF, vE, vV, kE, kV', callF, ar_nil, ar_cons, dn_fz, dn_ow, dn_bag, dn_scr, d_fz, d_ow, b_of, isiF, isD, blF, cmpF, chainF, orElse, lenS, bltF1, notT, andT, orT, tstF, l_list, l_tuple, l_all, l_listL, l_listT, l_tupL, l_tupT, l_abs, c_lt, c_le, c_gt, c_ge, c_eqI, c_neI, c_inS, c_niS, i_list, i_tuple, i_str, x_list, x_tuple, plainF, ixF, ixS, asgF, unpF, unF, setAll, List.length_cons, List.length_nil, List.map_cons, List.map_nil, if_true, if_false, List.cons_append, List.nil_append, List.append_nil, List.getElem?_cons_zero, List.getElem?_cons_succ, List.replicate, List.set_cons_zero, List.set_cons_succ, Option.bind_some, Option.map_some, Option.bind_none, Option.map_none, Bool.not_true, Bool.not_false, Bool.false_eq_true, Bool.or_false, Bool.or_true, Nat.reduceAdd, Nat.reduceSub, Nat.zero_add, decide_true, decide_false, Bool.true_and, Bool.false_and, Bool.and_true, Bool.and_false, wp_some, wp_none, wp_bind, wp_map, wp_if, binF, slF, partF, negE, y_list, y_tuple, lstF, tupF, ds_nil, ds_fz, setF, setS, appS, par2F, par3F, wp_frz, dict0, dict1, Iv.keyOf, kD, flatD, upF, revF, bltF2, swS, isiF2, lenOk_of, Nat.reduceLeDiff, b_add, b_sub]
        refine w_take b8 (by omega) (by omega) fun i5 s9 h50 h51 b9 => ?_
        try simp only [frzS, frzs, frz1, retF, retS, ifS, skipS, andE, orE, notE, ifE, valF, vE, vV, kE, kV', callF, ar_nil, ar_cons, dn_fz, dn_ow, dn_bag, dn_scr, d_fz, d_ow, b_of, isiF, isD, blF, cmpF, chainF, orElse, lenS, bltF1, notT, andT, orT, tstF, l_list, l_tuple, l_all, l_listL, l_listT, l_tupL, l_tupT, l_abs, c_lt, c_le, c_gt, c_ge, c_eqI, c_neI, c_inS, c_niS, i_list, i_tuple, i_str, x_list, x_tuple, plainF, ixF, ixS, asgF, unpF, unF, setAll, List.length_cons, List.length_nil, List.map_cons, List.map_nil, if_true, if_false, List.cons_append, List.nil_append, List.append_nil, List.getElem?_cons_zero, List.getElem?_cons_succ, List.replicate, List.set_cons_zero, List.set_cons_succ, Option.bind_some, Option.map_some, Option.bind_none, Option.map_none, Bool.not_true, Bool.not_false, Bool.false_eq_true, Bool.or_false, Bool.or_true, Nat.reduceAdd, Nat.reduceSub, Nat.zero_add, decide_true, decide_false, Bool.true_and, Bool.false_and, Bool.and_true, Bool.and_false, wp_some, wp_none, wp_bind, wp_map, wp_if, binF, slF, partF, negE, y_list, y_tuple, lstF, tupF, ds_nil, ds_fz, setF, setS, appS, par2F, par3F, wp_frz, dict0, dict1, Iv.keyOf, kD, flatD, upF, revF, bltF2, swS, isiF2, lenOk_of, Nat.reduceLeDiff, b_add, b_sub]
        refine wp_seq ?_
        have cd : cutL (names.map PyData.str) (some ((i : Int) + 1)) none = (names.drop (i + 1)).map .str := by
          have := cut_drop (names.map PyData.str) (i + 1)
          rw [List.map_drop]
          exact this
        have ln : ((names.drop (i + 1)).map PyData.str).length ≤ 3 := by rw [List.length_map, List.length_drop]; omega
        have a1 : binD .Add (.list [PyData.str ""]) (.list ((names.drop (i + 1)).map .str)) = some (.ow (.list ([PyData.str ""] ++ (names.drop (i + 1)).map .str))) := b_addL (by simp only [List.length_cons, List.length_nil]; omega)
        have a2 : binD .Add (.list ([PyData.str ""] ++ (names.drop (i + 1)).map .str)) (.list ((names.drop (i + 1)).map .str)) = some (.ow (.list ([PyData.str ""] ++ (names.drop (i + 1)).map .str ++ (names.drop (i + 1)).map .str))) := b_addL (by rw [List.length_append]; simp only [List.length_cons, List.length_nil]; omega)
        have m3 : ∀ x ∈ [PyData.str ""] ++ (names.drop (i + 1)).map .str ++ (names.drop (i + 1)).map .str, ∃ z : Str, x = .str z ∧ (z = "" ∨ z ∈ names.drop (i + 1)) := fun x hx => by
          have : x ∈ [PyData.str ""] ∨ x ∈ (names.drop (i + 1)).map PyData.str := by
            rcases List.mem_append.mp hx with hx | hx
            · exact List.mem_append.mp hx
            · exact .inr hx
          rcases this with hx | hx
          · rw [List.mem_singleton.mp hx]; exact ⟨_, rfl, .inl rfl⟩
          · obtain ⟨z, hz, rfl⟩ := List.mem_map.mp hx
            exact ⟨z, rfl, .inr hz⟩
        have l3 : ([PyData.str ""] ++ (names.drop (i + 1)).map PyData.str ++ (names.drop (i + 1)).map PyData.str).length ≤ 1000000 := by rw [List.length_append, List.length_append]; simp only [List.length_cons, List.length_nil]; omega
        have n3 : [PyData.str ""] ++ (names.drop (i + 1)).map .str ++ (names.drop (i + 1)).map .str ≠ [] := by simp
        generalize [PyData.str ""] ++ (names.drop (i + 1)).map .str ++ (names.drop (i + 1)).map .str = L3 at a2 m3 l3 n3
        generalize [PyData.str ""] ++ (names.drop (i + 1)).map .str = L2 at a1 a2
        generalize (names.drop (i + 1)).map PyData.str = L1 at cd a1 a2
        generalize names.map PyData.str = L0 at cd ⊢
        try simp only [frzS, frzs, frz1, retF, retS, ifS, skipS, andE, orE, notE, ifE, valF, vE, vV, kE, kV', callF, ar_nil, ar_cons, dn_fz, dn_ow, dn_bag, dn_scr, d_fz, d_ow, b_of, isiF, isD, blF, cmpF, chainF, orElse, lenS, bltF1, notT, andT, orT, tstF, l_list, l_tuple, l_all, l_listL, l_listT, l_tupL, l_tupT, l_abs, c_lt, c_le, c_gt, c_ge, c_eqI, c_neI, c_inS, c_niS, i_list, i_tuple, i_str, x_list, x_tuple, plainF, ixF, ixS, asgF, unpF, unF, setAll, List.length_cons, List.length_nil, List.map_cons, List.map_nil, if_true, if_false, List.cons_append, List.nil_append, List.append_nil, List.getElem?_cons_zero, List.getElem?_cons_succ, List.replicate, List.set_cons_zero, List.set_cons_succ, Option.bind_some, Option.map_some, Option.bind_none, Option.map_none, Bool.not_true, Bool.not_false, Bool.false_eq_true, Bool.or_false, Bool.or_true, Nat.reduceAdd, Nat.reduceSub, Nat.zero_add, decide_true, decide_false, Bool.true_and, Bool.false_and, Bool.and_true, Bool.and_false, wp_some, wp_none, wp_bind, wp_map, wp_if, binF, slF, partF, negE, y_list, y_tuple, lstF, tupF, ds_nil, ds_fz, setF, setS, appS, par2F, par3F, wp_frz, dict0, dict1, Iv.keyOf, kD, flatD, upF, revF, bltF2, swS, isiF2, lenOk_of, Nat.reduceLeDiff, b_add, b_sub, cd, a1, a2]
        refine w_of b9 n3 l3 fun x s10 hx b10 => ?_
        obtain ⟨z, rfl, hz⟩ := m3 x hx
        have hsl : (hs.map Hl.d).length < sizeLine := by
          have := congrArg List.length hh
          rw [List.length_map, List.length_take] at this
          rw [List.length_map, sizeLine_eq]; omega
        try simp only [frzS, frzs, frz1, retF, retS, ifS, skipS, andE, orE, notE, ifE, valF, vE, vV, kE, kV', callF, ar_nil, ar_cons, dn_fz, dn_ow, dn_bag, dn_scr, d_fz, d_ow, b_of, isiF, isD, blF, cmpF, chainF, orElse, lenS, bltF1, notT, andT, orT, tstF, l_list, l_tuple, l_all, l_listL, l_listT, l_tupL, l_tupT, l_abs, c_lt, c_le, c_gt, c_ge, c_eqI, c_neI, c_inS, c_niS, i_list, i_tuple, i_str, x_list, x_tuple, plainF, ixF, ixS, asgF, unpF, unF, setAll, List.length_cons, List.length_nil, List.map_cons, List.map_nil, if_true, if_false, List.cons_append, List.nil_append, List.append_nil, List.getElem?_cons_zero, List.getElem?_cons_succ, List.replicate, List.set_cons_zero, List.set_cons_succ, Option.bind_some, Option.map_some, Option.bind_none, Option.map_none, Bool.not_true, Bool.not_false, Bool.false_eq_true, Bool.or_false, Bool.or_true, Nat.reduceAdd, Nat.reduceSub, Nat.zero_add, decide_true, decide_false, Bool.true_and, Bool.false_and, Bool.and_true, Bool.and_false, wp_some, wp_none, wp_bind, wp_map, wp_if, binF, slF, partF, negE, y_list, y_tuple, lstF, tupF, ds_nil, ds_fz, setF, setS, appS, par2F, par3F, wp_frz, dict0, dict1, Iv.keyOf, kD, flatD, upF, revF, bltF2, swS, isiF2, lenOk_of, Nat.reduceLeDiff, b_add, b_sub, hsl]
        have hlc : c < ls.length := (List.getElem?_eq_some_iff.mp hlv).1
        have hlm : lv ∈ ls := List.mem_of_getElem? hlv
        have e9 : hs.map Hl.d ++ [PyData.tuple [.int lv, .int (1 + i5), .str z]] = (hs ++ [(⟨lv.toNat, (1 + i5).toNat, z⟩ : Hl)]).map Hl.d := by
          rw [List.map_append]
          simp only [List.map_cons, List.map_nil, Hl.d]
          rw [show ((lv.toNat : Nat) : Int) = lv from by have := (mem lv hlm).1; omega, show (((1 + i5).toNat : Nat) : Int) = 1 + i5 from by omega]
        rw [e9]
        refine ⟨s10, hs ++ [⟨lv.toNat, (1 + i5).toNat, z⟩], _, _, b10, rfl, rfl, ?_, fun y hy => ?_⟩
        · rw [List.map_append, hh, List.take_add_one, hlv]
          simp only [List.map_cons, List.map_nil, Option.toList_some]
          rw [show ((lv.toNat : Nat) : Int) = lv from by have := (mem lv hlm).1; omega]
        · rcases List.mem_append.mp hy with hy | hy
          · exact hr y hy
          · rw [List.mem_singleton.mp hy]
            exact ⟨by show 1 ≤ (1 + i5).toNat; omega, by show (1 + i5).toNat ≤ 100; omega, hz⟩
      case r3 =>
        rintro env st ⟨s7, hs, z10, z11, b7, rfl, rfl, hh, hr⟩
        rw [List.length_map, List.take_length] at hh
        refine wp_seq ?_
        have hsl : (ts.map Tb.d).length < sizeLine := by
          have := (List.getElem?_eq_some_iff.mp hd2).1
          rw [List.length_map, sizeLine_eq]; omega
        generalize hE : hs.map Hl.d = HD
        try simp only [frzS, frzs, frz1, retF, retS, ifS, skipS, andE, orE, notE, ifE, valF, vE, vV, kE, kV', callF, ar_nil, ar_cons, dn_fz, dn_ow, dn_bag, dn_scr, d_fz, d_ow, b_of, isiF, isD, blF, cmpF, chainF, orElse, lenS, bltF1, notT, andT, orT, tstF, l_list, l_tuple, l_all, l_listL, l_listT, l_tupL, l_tupT, l_abs, c_lt, c_le, c_gt, c_ge, c_eqI, c_neI, c_inS, c_niS, i_list, i_tuple, i_str, x_list, x_tuple, plainF, ixF, ixS, asgF, unpF, unF, setAll, List.length_cons, List.length_nil, List.map_cons, List.map_nil, if_true, if_false, List.cons_append, List.nil_append, List.append_nil, List.getElem?_cons_zero, List.getElem?_cons_succ, List.replicate, List.set_cons_zero, List.set_cons_succ, Option.bind_some, Option.map_some, Option.bind_none, Option.map_none, Bool.not_true, Bool.not_false, Bool.false_eq_true, Bool.or_false, Bool.or_true, Nat.reduceAdd, Nat.reduceSub, Nat.zero_add, decide_true, decide_false, Bool.true_and, Bool.false_and, Bool.and_true, Bool.and_false, wp_some, wp_none, wp_bind, wp_map, wp_if, binF, slF, partF, negE, y_list, y_tuple, lstF, tupF, ds_nil, ds_fz, setF, setS, appS, par2F, par3F, wp_frz, dict0, dict1, Iv.keyOf, kD, flatD, upF, revF, bltF2, swS, isiF2, lenOk_of, Nat.reduceLeDiff, b_add, b_sub]
        refine w_take b7 (by omega) (by omega) fun i6 s8 h60 h61 b8 => ?_
        try simp only [frzS, frzs, frz1, retF, retS, ifS, skipS, andE, orE, notE, ifE, valF, vE, vV, kE, kV', callF, ar_nil, ar_cons, dn_fz, dn_ow, dn_bag, dn_scr, d_fz, d_ow, b_of, isiF, isD, blF, cmpF, chainF, orElse, lenS, bltF1, notT, andT, orT, tstF, l_list, l_tuple, l_all, l_listL, l_listT, l_tupL, l_tupT, l_abs, c_lt, c_le, c_gt, c_ge, c_eqI, c_neI, c_inS, c_niS, i_list, i_tuple, i_str, x_list, x_tuple, plainF, ixF, ixS, asgF, unpF, unF, setAll, List.length_cons, List.length_nil, List.map_cons, List.map_nil, if_true, if_false, List.cons_append, List.nil_append, List.append_nil, List.getElem?_cons_zero, List.getElem?_cons_succ, List.replicate, List.set_cons_zero, List.set_cons_succ, Option.bind_some, Option.map_some, Option.bind_none, Option.map_none, Bool.not_true, Bool.not_false, Bool.false_eq_true, Bool.or_false, Bool.or_true, Nat.reduceAdd, Nat.reduceSub, Nat.zero_add, decide_true, decide_false, Bool.true_and, Bool.false_and, Bool.and_true, Bool.and_false, wp_some, wp_none, wp_bind, wp_map, wp_if, binF, slF, partF, negE, y_list, y_tuple, lstF, tupF, ds_nil, ds_fz, setF, setS, appS, par2F, par3F, wp_frz, dict0, dict1, Iv.keyOf, kD, flatD, upF, revF, bltF2, swS, isiF2, lenOk_of, Nat.reduceLeDiff, b_add, b_sub]
        refine wp_at (by omega) (by simp; omega) fun x hx => ?_
        obtain ⟨rt, rfl, hr0, hr1⟩ : ∃ rt : Int, x = .int rt ∧ 0 < rt ∧ rt ≤ 30 := by
          simp only [List.mem_cons, List.not_mem_nil, or_false] at hx
          rcases hx with rfl | rfl <;> exact ⟨_, rfl, by omega, by omega⟩
        try simp only [frzS, frzs, frz1, retF, retS, ifS, skipS, andE, orE, notE, ifE, valF, vE, vV, kE, kV', callF, ar_nil, ar_cons, dn_fz, dn_ow, dn_bag, dn_scr, d_fz, d_ow, b_of, isiF, isD, blF, cmpF, chainF, orElse, lenS, bltF1, notT, andT, orT, tstF, l_list, l_tuple, l_all, l_listL, l_listT, l_tupL, l_tupT, l_abs, c_lt, c_le, c_gt, c_ge, c_eqI, c_neI, c_inS, c_niS, i_list, i_tuple, i_str, x_list, x_tuple, plainF, ixF, ixS, asgF, unpF, unF, setAll, List.length_cons, List.length_nil, List.map_cons, List.map_nil, if_true, if_false, List.cons_append, List.nil_append, List.append_nil, List.getElem?_cons_zero, List.getElem?_cons_succ, List.replicate, List.set_cons_zero, List.set_cons_succ, Option.bind_some, Option.map_some, Option.bind_none, Option.map_none, Bool.not_true, Bool.not_false, Bool.false_eq_true, Bool.or_false, Bool.or_true, Nat.reduceAdd, Nat.reduceSub, Nat.zero_add, decide_true, decide_false, Bool.true_and, Bool.false_and, Bool.and_true, Bool.and_false, wp_some, wp_none, wp_bind, wp_map, wp_if, binF, slF, partF, negE, y_list, y_tuple, lstF, tupF, ds_nil, ds_fz, setF, setS, appS, par2F, par3F, wp_frz, dict0, dict1, Iv.keyOf, kD, flatD, upF, revF, bltF2, swS, isiF2, lenOk_of, Nat.reduceLeDiff, b_add, b_sub]
        refine w_take b8 (by omega) (by omega) fun i7 s9 h70 h71 b9 => ?_
        try simp only [frzS, frzs, frz1, retF, retS, ifS, skipS, andE, orE, notE, ifE, valF, vE, vV, kE, kV', callF, ar_nil, ar_cons, dn_fz, dn_ow, dn_bag, dn_scr, d_fz, d_ow, b_of, isiF, isD, blF, cmpF, chainF, orElse, lenS, bltF1, notT, andT, orT, tstF, l_list, l_tuple, l_all, l_listL, l_listT, l_tupL, l_tupT, l_abs, c_lt, c_le, c_gt, c_ge, c_eqI, c_neI, c_inS, c_niS, i_list, i_tuple, i_str, x_list, x_tuple, plainF, ixF, ixS, asgF, unpF, unF, setAll, List.length_cons, List.length_nil, List.map_cons, List.map_nil, if_true, if_false, List.cons_append, List.nil_append, List.append_nil, List.getElem?_cons_zero, List.getElem?_cons_succ, List.replicate, List.set_cons_zero, List.set_cons_succ, Option.bind_some, Option.map_some, Option.bind_none, Option.map_none, Bool.not_true, Bool.not_false, Bool.false_eq_true, Bool.or_false, Bool.or_true, Nat.reduceAdd, Nat.reduceSub, Nat.zero_add, decide_true, decide_false, Bool.true_and, Bool.false_and, Bool.and_true, Bool.and_false, wp_some, wp_none, wp_bind, wp_map, wp_if, binF, slF, partF, negE, y_list, y_tuple, lstF, tupF, ds_nil, ds_fz, setF, setS, appS, par2F, par3F, wp_frz, dict0, dict1, Iv.keyOf, kD, flatD, upF, revF, bltF2, swS, isiF2, lenOk_of, Nat.reduceLeDiff, b_add, b_sub, hsl]
        have hle : hs.length = ls.length := by have := congrArg List.length hh; rwa [List.length_map] at this
        have hin : ∀ x ∈ hs, (x.h : Int) ∈ ls := fun x hx => by rw [← hh]; exact List.mem_map_of_mem hx
        have e9 : ts.map Tb.d ++ [PyData.tuple [.str nm, .int (1 + i7), .tuple HD]] = (ts ++ [(⟨nm, (1 + i7).toNat, hs⟩ : Tb)]).map Tb.d := by
          rw [List.map_append]
          simp only [List.map_cons, List.map_nil, Tb.d, hE]
          rw [show (((1 + i7).toNat : Nat) : Int) = 1 + i7 from by omega]
        rw [e9]
        refine ⟨s9, ts ++ [⟨nm, (1 + i7).toNat, hs⟩], _, _, _, _, _, _, _, _, b9, rfl, rfl, by rw [List.length_append, hl]; rfl, fun j t hj => ?_⟩
        · rcases Nat.lt_or_ge j ts.length with h | h
          · rw [List.getElem?_append_left h] at hj
            exact hg j t hj
          · rw [List.getElem?_append_right h] at hj
            have hj0 : j = i := by
              have := (List.getElem?_eq_some_iff.mp hj).1
              simp at this; omega
            subst hj0
            rw [hl, Nat.sub_self] at hj
            cases hj
            refine ⟨hd2, ⟨by show 1 ≤ (1 + i7).toNat; omega, by show (1 + i7).toNat ≤ 30; omega, ?_⟩⟩
            refine ⟨by show hs.length ≤ 3; omega, ?_, fun x hx => ?_, fun x hx => (hr x hx).1, fun x hx => (hr x hx).2.1, fun x hx => (hr x hx).2.2⟩
            · rw [← hh, List.pairwise_map] at up
              exact up.imp fun h => by omega
            · have := mem _ (hin x hx)
              omega
end K01

set_option maxHeartbeats 4000000
namespace K01
open PySem PySem.Spec PyProof.Rows L2 Iv
variable {k : Nat}
def intD (n : Nat) : D := .int (n : Nat)
structure TbOk (t : Tb) : Prop where
  len : t.hs.length ≤ 3
  hi : ∀ x ∈ t.hs, x.h ≤ 1000
  ra : ∀ x ∈ t.hs, x.r ≤ 100
theorem GoodTs.ok {ts : List Tb} (h : GoodTs ts) : ∀ t ∈ ts, TbOk t := fun t ht => by
  obtain ⟨j, hj⟩ := List.getElem?_of_mem ht
  have g := h.tb j t hj
  exact ⟨g.hs.len, g.hs.hi, g.hs.ra⟩
theorem sum_take_le {l : List Nat} {b : Nat} (h : ∀ x ∈ l, x ≤ b) (c : Nat) : (l.take c).sum ≤ b * c := by
  induction l generalizing c with
  | nil => simp
  | cons x l ih =>
    cases c with
    | zero => simp
    | succ c =>
      simp only [List.take_succ_cons, List.sum_cons]
      have h1 := h x List.mem_cons_self
      have h2 := ih (fun y hy => h y (List.mem_cons_of_mem _ hy)) c
      rw [Nat.mul_succ]; omega
theorem w_rain {ts : List Tb} {s : Int × Int} {Q : R × BSt → Prop} (ht : ∀ t ∈ ts, TbOk t) (hl : ts.length ≤ 3) (hs : bgOk s) (q : ∀ (rs : List Nat) (s' : Int × Int), rs.length = ts.length → (∀ r ∈ rs, r ≤ 1000) → bgOk s' → Q (.fz (.tuple (rs.map intD)), some s')) : wp (tbl.F whR 60 (k + 3) "_law_rain" [.bag, .fz (.tuple (ts.map Tb.d))] (some s)) Q := by
  rw [e__law_rain]
  refine wp_run rfl ?_
  unfold m__law_rain
  refine wp_seq ?_
  try simp only [frzS, frzs, frz1, retF, retS, ifS, skipS, andE, orE, notE, ifE, valF, vE, vV, kE, kV', callF, ar_nil, ar_cons, dn_fz, dn_ow, dn_bag, dn_scr, d_fz, d_ow, b_of, isiF, isD, blF, cmpF, chainF, orElse, lenS, bltF1, notT, andT, orT, tstF, l_list, l_tuple, l_all, l_listL, l_listT, l_tupL, l_tupT, l_abs, c_lt, c_le, c_gt, c_ge, c_eqI, c_neI, c_inS, c_niS, i_list, i_tuple, i_str, x_list, x_tuple, plainF, ixF, ixS, asgF, unpF, unF, setAll, List.length_cons, List.length_nil, List.map_cons, List.map_nil, if_true, if_false, List.cons_append, List.nil_append, List.append_nil, List.getElem?_cons_zero, List.getElem?_cons_succ, List.replicate, List.set_cons_zero, List.set_cons_succ, Option.bind_some, Option.map_some, Option.bind_none, Option.map_none, Bool.not_true, Bool.not_false, Bool.false_eq_true, Bool.or_false, Bool.or_true, Nat.reduceAdd, Nat.reduceSub, Nat.zero_add, decide_true, decide_false, Bool.true_and, Bool.false_and, Bool.and_true, Bool.and_false, wp_some, wp_none, wp_bind, wp_map, wp_if, binF, slF, partF, negE, y_list, y_tuple, lstF, tupF, ds_nil, ds_fz, setF, setS, appS, par2F, par3F, wp_frz, dict0, dict1, Iv.keyOf, kD, flatD, upF, revF, bltF2, swS, isiF2, lenOk_of, Nat.reduceLeDiff, b_add, b_sub]
  refine wp_seq ?_
  refine wp_for (ds := ts.map Tb.d) (st1 := some s) (I := fun i env st => ∃ (s : Int × Int) (rs : List Nat) (z3 z4 z5 z6 z7 z8 : Option R), bgOk s ∧ st = some s ∧ env = [some .bag, some (.fz (.tuple (ts.map Tb.d))), some (.ow (.list (rs.map intD))), z3, z4, z5, z6, z7, z8] ∧ rs.length = i ∧ ∀ r ∈ rs, r ≤ 1000) rfl ⟨s, [], _, _, _, _, _, _, hs, rfl, rfl, rfl, fun r hr => by cases hr⟩ ?body ?rest
  case rest =>
    rintro env st ⟨s1, rs, z3, z4, z5, z6, z7, z8, b1, rfl, rfl, hl1, hr⟩
    refine wp_seq ?_
    try simp only [frzS, frzs, frz1, retF, retS, ifS, skipS, andE, orE, notE, ifE, valF, vE, vV, kE, kV', callF, ar_nil, ar_cons, dn_fz, dn_ow, dn_bag, dn_scr, d_fz, d_ow, b_of, isiF, isD, blF, cmpF, chainF, orElse, lenS, bltF1, notT, andT, orT, tstF, l_list, l_tuple, l_all, l_listL, l_listT, l_tupL, l_tupT, l_abs, c_lt, c_le, c_gt, c_ge, c_eqI, c_neI, c_inS, c_niS, i_list, i_tuple, i_str, x_list, x_tuple, plainF, ixF, ixS, asgF, unpF, unF, setAll, List.length_cons, List.length_nil, List.map_cons, List.map_nil, if_true, if_false, List.cons_append, List.nil_append, List.append_nil, List.getElem?_cons_zero, List.getElem?_cons_succ, List.replicate, List.set_cons_zero, List.set_cons_succ, Option.bind_some, Option.map_some, Option.bind_none, Option.map_none, Bool.not_true, Bool.not_false, Bool.false_eq_true, Bool.or_false, Bool.or_true, Nat.reduceAdd, Nat.reduceSub, Nat.zero_add, decide_true, decide_false, Bool.true_and, Bool.false_and, Bool.and_true, Bool.and_false, wp_some, wp_none, wp_bind, wp_map, wp_if, binF, slF, partF, negE, y_list, y_tuple, lstF, tupF, ds_nil, ds_fz, setF, setS, appS, par2F, par3F, wp_frz, dict0, dict1, Iv.keyOf, kD, flatD, upF, revF, bltF2, swS, isiF2, lenOk_of, Nat.reduceLeDiff, b_add, b_sub]
    exact q rs s1 (by rw [hl1, List.length_map]) hr b1
  case body =>
    rintro i d env st hd ⟨s1, rs, z3, z4, z5, z6, z7, z8, b1, rfl, rfl, hl1, hr⟩
    rw [List.getElem?_map] at hd
    obtain ⟨t, htt, rfl⟩ := map1 hd
    have tok := ht t (List.mem_of_getElem? htt)
    refine ⟨_, rfl, ?_⟩
    refine wp_seq ?_
    try simp only [frzS, frzs, frz1, retF, retS, ifS, skipS, andE, orE, notE, ifE, valF, vE, vV, kE, kV', callF, ar_nil, ar_cons, dn_fz, dn_ow, dn_bag, dn_scr, d_fz, d_ow, b_of, isiF, isD, blF, cmpF, chainF, orElse, lenS, bltF1, notT, andT, orT, tstF, l_list, l_tuple, l_all, l_listL, l_listT, l_tupL, l_tupT, l_abs, c_lt, c_le, c_gt, c_ge, c_eqI, c_neI, c_inS, c_niS, i_list, i_tuple, i_str, x_list, x_tuple, plainF, ixF, ixS, asgF, unpF, unF, setAll, List.length_cons, List.length_nil, List.map_cons, List.map_nil, if_true, if_false, List.cons_append, List.nil_append, List.append_nil, List.getElem?_cons_zero, List.getElem?_cons_succ, List.replicate, List.set_cons_zero, List.set_cons_succ, Option.bind_some, Option.map_some, Option.bind_none, Option.map_none, Bool.not_true, Bool.not_false, Bool.false_eq_true, Bool.or_false, Bool.or_true, Nat.reduceAdd, Nat.reduceSub, Nat.zero_add, decide_true, decide_false, Bool.true_and, Bool.false_and, Bool.and_true, Bool.and_false, wp_some, wp_none, wp_bind, wp_map, wp_if, binF, slF, partF, negE, y_list, y_tuple, lstF, tupF, ds_nil, ds_fz, setF, setS, appS, par2F, par3F, wp_frz, dict0, dict1, Iv.keyOf, kD, flatD, upF, revF, bltF2, swS, isiF2, lenOk_of, Nat.reduceLeDiff, b_add, b_sub]
    refine wp_seq ?_
    refine wp_for (ds := t.hs.map Hl.d) (st1 := some s1) (I := fun c env st => ∃ (us : List Nat) (z8 : Option R), st = some s1 ∧ env = [some .bag, some (.fz (.tuple (ts.map Tb.d))), some (.ow (.list (rs.map intD))), some (.fz (.str t.n)), some (.fz (.int t.g)), some (.fz (.tuple (t.hs.map Hl.d))), some (.ow (.list (us.map intD))), some (.fz (.int (((t.hs.map Hl.r).take c).sum : Nat))), z8] ∧ us.length = c + 1 ∧ ∀ r ∈ us, r ≤ 100 * c) ?i2 ⟨[0], _, rfl, rfl, rfl, fun r hr => by rw [List.mem_singleton.mp hr]; omega⟩ ?b2 ?r2
    case i2 => rfl
    case b2 =>
      rintro c d env st hc ⟨us, z8, rfl, rfl, hul, hu⟩
      rw [List.getElem?_map] at hc
      obtain ⟨x, hx, rfl⟩ := map1 hc
      have hxr : (t.hs.map Hl.r)[c]? = some x.r := by rw [List.getElem?_map, hx]; rfl
      have hcl := (List.getElem?_eq_some_iff.mp hx).1
      refine ⟨_, rfl, ?_⟩
      refine wp_seq ?_
      have x1 : atI [PyData.int x.h, .int x.r, .str x.to] 1 = some (.int x.r) := rfl
      have et : (((t.hs.map Hl.r).take (c + 1)).sum : Nat) = ((t.hs.map Hl.r).take c).sum + x.r := by
        rw [List.take_add_one, hxr]; simp
      have le := sum_take_le (l := t.hs.map Hl.r) (b := 100) (fun y hy => by obtain ⟨z, hz, rfl⟩ := List.mem_map.mp hy; exact tok.ra z hz) (c + 1)
      have tl := tok.len
      rw [et] at le ⊢
      generalize ((t.hs.map Hl.r).take c).sum = tot at le ⊢
      have sz : (us.map intD).length < sizeLine := by rw [List.length_map, sizeLine_eq]; omega
      try simp only [frzS, frzs, frz1, retF, retS, ifS, skipS, andE, orE, notE, ifE, valF, vE, vV, kE, kV', callF, ar_nil, ar_cons, dn_fz, dn_ow, dn_bag, dn_scr, d_fz, d_ow, b_of, isiF, isD, blF, cmpF, chainF, orElse, lenS, bltF1, notT, andT, orT, tstF, l_list, l_tuple, l_all, l_listL, l_listT, l_tupL, l_tupT, l_abs, c_lt, c_le, c_gt, c_ge, c_eqI, c_neI, c_inS, c_niS, i_list, i_tuple, i_str, x_list, x_tuple, plainF, ixF, ixS, asgF, unpF, unF, setAll, List.length_cons, List.length_nil, List.map_cons, List.map_nil, if_true, if_false, List.cons_append, List.nil_append, List.append_nil, List.getElem?_cons_zero, List.getElem?_cons_succ, List.replicate, List.set_cons_zero, List.set_cons_succ, Option.bind_some, Option.map_some, Option.bind_none, Option.map_none, Bool.not_true, Bool.not_false, Bool.false_eq_true, Bool.or_false, Bool.or_true, Nat.reduceAdd, Nat.reduceSub, Nat.zero_add, decide_true, decide_false, Bool.true_and, Bool.false_and, Bool.and_true, Bool.and_false, wp_some, wp_none, wp_bind, wp_map, wp_if, binF, slF, partF, negE, y_list, y_tuple, lstF, tupF, ds_nil, ds_fz, setF, setS, appS, par2F, par3F, wp_frz, dict0, dict1, Iv.keyOf, kD, flatD, upF, revF, bltF2, swS, isiF2, lenOk_of, Nat.reduceLeDiff, b_add, b_sub, Hl.d, x1]
      refine wp_seq ?_
      try simp only [frzS, frzs, frz1, retF, retS, ifS, skipS, andE, orE, notE, ifE, valF, vE, vV, kE, kV', callF, ar_nil, ar_cons, dn_fz, dn_ow, dn_bag, dn_scr, d_fz, d_ow, b_of, isiF, isD, blF, cmpF, chainF, orElse, lenS, bltF1, notT, andT, orT, tstF, l_list, l_tuple, l_all, l_listL, l_listT, l_tupL, l_tupT, l_abs, c_lt, c_le, c_gt, c_ge, c_eqI, c_neI, c_inS, c_niS, i_list, i_tuple, i_str, x_list, x_tuple, plainF, ixF, ixS, asgF, unpF, unF, setAll, List.length_cons, List.length_nil, List.map_cons, List.map_nil, if_true, if_false, List.cons_append, List.nil_append, List.append_nil, List.getElem?_cons_zero, List.getElem?_cons_succ, List.replicate, List.set_cons_zero, List.set_cons_succ, Option.bind_some, Option.map_some, Option.bind_none, Option.map_none, Bool.not_true, Bool.not_false, Bool.false_eq_true, Bool.or_false, Bool.or_true, Nat.reduceAdd, Nat.reduceSub, Nat.zero_add, decide_true, decide_false, Bool.true_and, Bool.false_and, Bool.and_true, Bool.and_false, wp_some, wp_none, wp_bind, wp_map, wp_if, binF, slF, partF, negE, y_list, y_tuple, lstF, tupF, ds_nil, ds_fz, setF, setS, appS, par2F, par3F, wp_frz, dict0, dict1, Iv.keyOf, kD, flatD, upF, revF, bltF2, swS, isiF2, lenOk_of, Nat.reduceLeDiff, b_add, b_sub, sz]
      have e9 : us.map intD ++ [PyData.int ((tot : Int) + (x.r : Int))] = (us ++ [tot + x.r]).map intD := by
        rw [List.map_append]; rfl
      rw [e9]
      refine ⟨us ++ [tot + x.r], _, (by first | exact rfl | trivial), rfl, by rw [List.length_append, hul]; rfl, fun r hr => ?_⟩
      rcases List.mem_append.mp hr with hr | hr
      · have := hu r hr; omega
      · rw [List.mem_singleton.mp hr]; omega
    case r2 =>
      rintro env st ⟨us, z8, rfl, rfl, hul, hu⟩
      rw [List.length_map] at hul hu
      have tl := tok.len
      refine wp_seq ?_
      generalize (((t.hs.map Hl.r).take (t.hs.map Hl.d).length).sum : Nat) = tot
      have hun : us.map intD ≠ [] := by
        intro e; have := congrArg List.length e; rw [List.length_map, List.length_nil] at this; omega
      have hul2 : (us.map intD).length ≤ 1000000 := by rw [List.length_map]; omega
      have hum : ∀ x ∈ us.map intD, ∃ n : Nat, x = .int (n : Nat) ∧ n ≤ 1000 := fun x hx => by
        obtain ⟨n, hn, rfl⟩ := List.mem_map.mp hx
        exact ⟨n, rfl, by have := hu n hn; omega⟩
      generalize us.map intD = UD at hun hul2 hum
      have sz : (rs.map intD).length < sizeLine := by
        have := (List.getElem?_eq_some_iff.mp htt).1
        rw [List.length_map, sizeLine_eq]; omega
      try simp only [frzS, frzs, frz1, retF, retS, ifS, skipS, andE, orE, notE, ifE, valF, vE, vV, kE, kV', callF, ar_nil, ar_cons, dn_fz, dn_ow, dn_bag, dn_scr, d_fz, d_ow, b_of, isiF, isD, blF, cmpF, chainF, orElse, lenS, bltF1, notT, andT, orT, tstF, l_list, l_tuple, l_all, l_listL, l_listT, l_tupL, l_tupT, l_abs, c_lt, c_le, c_gt, c_ge, c_eqI, c_neI, c_inS, c_niS, i_list, i_tuple, i_str, x_list, x_tuple, plainF, ixF, ixS, asgF, unpF, unF, setAll, List.length_cons, List.length_nil, List.map_cons, List.map_nil, if_true, if_false, List.cons_append, List.nil_append, List.append_nil, List.getElem?_cons_zero, List.getElem?_cons_succ, List.replicate, List.set_cons_zero, List.set_cons_succ, Option.bind_some, Option.map_some, Option.bind_none, Option.map_none, Bool.not_true, Bool.not_false, Bool.false_eq_true, Bool.or_false, Bool.or_true, Nat.reduceAdd, Nat.reduceSub, Nat.zero_add, decide_true, decide_false, Bool.true_and, Bool.false_and, Bool.and_true, Bool.and_false, wp_some, wp_none, wp_bind, wp_map, wp_if, binF, slF, partF, negE, y_list, y_tuple, lstF, tupF, ds_nil, ds_fz, setF, setS, appS, par2F, par3F, wp_frz, dict0, dict1, Iv.keyOf, kD, flatD, upF, revF, bltF2, swS, isiF2, lenOk_of, Nat.reduceLeDiff, b_add, b_sub]
      refine w_of b1 hun hul2 fun x s2 hx b2 => ?_
      obtain ⟨n1, rfl, hn1⟩ := hum x hx
      try simp only [frzS, frzs, frz1, retF, retS, ifS, skipS, andE, orE, notE, ifE, valF, vE, vV, kE, kV', callF, ar_nil, ar_cons, dn_fz, dn_ow, dn_bag, dn_scr, d_fz, d_ow, b_of, isiF, isD, blF, cmpF, chainF, orElse, lenS, bltF1, notT, andT, orT, tstF, l_list, l_tuple, l_all, l_listL, l_listT, l_tupL, l_tupT, l_abs, c_lt, c_le, c_gt, c_ge, c_eqI, c_neI, c_inS, c_niS, i_list, i_tuple, i_str, x_list, x_tuple, plainF, ixF, ixS, asgF, unpF, unF, setAll, List.length_cons, List.length_nil, List.map_cons, List.map_nil, if_true, if_false, List.cons_append, List.nil_append, List.append_nil, List.getElem?_cons_zero, List.getElem?_cons_succ, List.replicate, List.set_cons_zero, List.set_cons_succ, Option.bind_some, Option.map_some, Option.bind_none, Option.map_none, Bool.not_true, Bool.not_false, Bool.false_eq_true, Bool.or_false, Bool.or_true, Nat.reduceAdd, Nat.reduceSub, Nat.zero_add, decide_true, decide_false, Bool.true_and, Bool.false_and, Bool.and_true, Bool.and_false, wp_some, wp_none, wp_bind, wp_map, wp_if, binF, slF, partF, negE, y_list, y_tuple, lstF, tupF, ds_nil, ds_fz, setF, setS, appS, par2F, par3F, wp_frz, dict0, dict1, Iv.keyOf, kD, flatD, upF, revF, bltF2, swS, isiF2, lenOk_of, Nat.reduceLeDiff, b_add, b_sub]
      refine w_take b2 (by omega) (by omega) fun i2 s3 _ _ b3 => ?_
      try simp only [frzS, frzs, frz1, retF, retS, ifS, skipS, andE, orE, notE, ifE, valF, vE, vV, kE, kV', callF, ar_nil, ar_cons, dn_fz, dn_ow, dn_bag, dn_scr, d_fz, d_ow, b_of, isiF, isD, blF, cmpF, chainF, orElse, lenS, bltF1, notT, andT, orT, tstF, l_list, l_tuple, l_all, l_listL, l_listT, l_tupL, l_tupT, l_abs, c_lt, c_le, c_gt, c_ge, c_eqI, c_neI, c_inS, c_niS, i_list, i_tuple, i_str, x_list, x_tuple, plainF, ixF, ixS, asgF, unpF, unF, setAll, List.length_cons, List.length_nil, List.map_cons, List.map_nil, if_true, if_false, List.cons_append, List.nil_append, List.append_nil, List.getElem?_cons_zero, List.getElem?_cons_succ, List.replicate, List.set_cons_zero, List.set_cons_succ, Option.bind_some, Option.map_some, Option.bind_none, Option.map_none, Bool.not_true, Bool.not_false, Bool.false_eq_true, Bool.or_false, Bool.or_true, Nat.reduceAdd, Nat.reduceSub, Nat.zero_add, decide_true, decide_false, Bool.true_and, Bool.false_and, Bool.and_true, Bool.and_false, wp_some, wp_none, wp_bind, wp_map, wp_if, binF, slF, partF, negE, y_list, y_tuple, lstF, tupF, ds_nil, ds_fz, setF, setS, appS, par2F, par3F, wp_frz, dict0, dict1, Iv.keyOf, kD, flatD, upF, revF, bltF2, swS, isiF2, lenOk_of, Nat.reduceLeDiff, b_add, b_sub]
      refine w_take b3 (by omega) (by omega) fun i3 s4 _ _ b4 => ?_
      try simp only [frzS, frzs, frz1, retF, retS, ifS, skipS, andE, orE, notE, ifE, valF, vE, vV, kE, kV', callF, ar_nil, ar_cons, dn_fz, dn_ow, dn_bag, dn_scr, d_fz, d_ow, b_of, isiF, isD, blF, cmpF, chainF, orElse, lenS, bltF1, notT, andT, orT, tstF, l_list, l_tuple, l_all, l_listL, l_listT, l_tupL, l_tupT, l_abs, c_lt, c_le, c_gt, c_ge, c_eqI, c_neI, c_inS, c_niS, i_list, i_tuple, i_str, x_list, x_tuple, plainF, ixF, ixS, asgF, unpF, unF, setAll, List.length_cons, List.length_nil, List.map_cons, List.map_nil, if_true, if_false, List.cons_append, List.nil_append, List.append_nil, List.getElem?_cons_zero, List.getElem?_cons_succ, List.replicate, List.set_cons_zero, List.set_cons_succ, Option.bind_some, Option.map_some, Option.bind_none, Option.map_none, Bool.not_true, Bool.not_false, Bool.false_eq_true, Bool.or_false, Bool.or_true, Nat.reduceAdd, Nat.reduceSub, Nat.zero_add, decide_true, decide_false, Bool.true_and, Bool.false_and, Bool.and_true, Bool.and_false, wp_some, wp_none, wp_bind, wp_map, wp_if, binF, slF, partF, negE, y_list, y_tuple, lstF, tupF, ds_nil, ds_fz, setF, setS, appS, par2F, par3F, wp_frz, dict0, dict1, Iv.keyOf, kD, flatD, upF, revF, bltF2, swS, isiF2, lenOk_of, Nat.reduceLeDiff, b_add, b_sub]
      refine w_take b4 (by omega) (by omega) fun i4 s5 _ _ b5 => ?_
      try simp only [frzS, frzs, frz1, retF, retS, ifS, skipS, andE, orE, notE, ifE, valF, vE, vV, kE, kV', callF, ar_nil, ar_cons, dn_fz, dn_ow, dn_bag, dn_scr, d_fz, d_ow, b_of, isiF, isD, blF, cmpF, chainF, orElse, lenS, bltF1, notT, andT, orT, tstF, l_list, l_tuple, l_all, l_listL, l_listT, l_tupL, l_tupT, l_abs, c_lt, c_le, c_gt, c_ge, c_eqI, c_neI, c_inS, c_niS, i_list, i_tuple, i_str, x_list, x_tuple, plainF, ixF, ixS, asgF, unpF, unF, setAll, List.length_cons, List.length_nil, List.map_cons, List.map_nil, if_true, if_false, List.cons_append, List.nil_append, List.append_nil, List.getElem?_cons_zero, List.getElem?_cons_succ, List.replicate, List.set_cons_zero, List.set_cons_succ, Option.bind_some, Option.map_some, Option.bind_none, Option.map_none, Bool.not_true, Bool.not_false, Bool.false_eq_true, Bool.or_false, Bool.or_true, Nat.reduceAdd, Nat.reduceSub, Nat.zero_add, decide_true, decide_false, Bool.true_and, Bool.false_and, Bool.and_true, Bool.and_false, wp_some, wp_none, wp_bind, wp_map, wp_if, binF, slF, partF, negE, y_list, y_tuple, lstF, tupF, ds_nil, ds_fz, setF, setS, appS, par2F, par3F, wp_frz, dict0, dict1, Iv.keyOf, kD, flatD, upF, revF, bltF2, swS, isiF2, lenOk_of, Nat.reduceLeDiff, b_add, b_sub]
      refine wp_at (by omega) (by simp; omega) fun x hx => ?_
      obtain ⟨n, rfl, hn⟩ : ∃ n : Nat, x = .int (n : Nat) ∧ n ≤ 1000 := by
        simp only [List.mem_cons, List.not_mem_nil, or_false] at hx
        rcases hx with rfl | rfl | rfl | rfl
        · exact ⟨n1, rfl, hn1⟩
        · exact ⟨i2.toNat, by rw [show ((i2.toNat : Nat) : Int) = i2 from by omega], by omega⟩
        · exact ⟨i3.toNat, by rw [show ((i3.toNat : Nat) : Int) = i3 from by omega], by omega⟩
        · exact ⟨0, rfl, by omega⟩
      try simp only [frzS, frzs, frz1, retF, retS, ifS, skipS, andE, orE, notE, ifE, valF, vE, vV, kE, kV', callF, ar_nil, ar_cons, dn_fz, dn_ow, dn_bag, dn_scr, d_fz, d_ow, b_of, isiF, isD, blF, cmpF, chainF, orElse, lenS, bltF1, notT, andT, orT, tstF, l_list, l_tuple, l_all, l_listL, l_listT, l_tupL, l_tupT, l_abs, c_lt, c_le, c_gt, c_ge, c_eqI, c_neI, c_inS, c_niS, i_list, i_tuple, i_str, x_list, x_tuple, plainF, ixF, ixS, asgF, unpF, unF, setAll, List.length_cons, List.length_nil, List.map_cons, List.map_nil, if_true, if_false, List.cons_append, List.nil_append, List.append_nil, List.getElem?_cons_zero, List.getElem?_cons_succ, List.replicate, List.set_cons_zero, List.set_cons_succ, Option.bind_some, Option.map_some, Option.bind_none, Option.map_none, Bool.not_true, Bool.not_false, Bool.false_eq_true, Bool.or_false, Bool.or_true, Nat.reduceAdd, Nat.reduceSub, Nat.zero_add, decide_true, decide_false, Bool.true_and, Bool.false_and, Bool.and_true, Bool.and_false, wp_some, wp_none, wp_bind, wp_map, wp_if, binF, slF, partF, negE, y_list, y_tuple, lstF, tupF, ds_nil, ds_fz, setF, setS, appS, par2F, par3F, wp_frz, dict0, dict1, Iv.keyOf, kD, flatD, upF, revF, bltF2, swS, isiF2, lenOk_of, Nat.reduceLeDiff, b_add, b_sub, sz]
      have e9 : rs.map intD ++ [PyData.int (n : Nat)] = (rs ++ [n]).map intD := by rw [List.map_append]; rfl
      rw [e9]
      refine ⟨s5, rs ++ [n], _, _, _, _, _, _, b5, rfl, rfl, by rw [List.length_append, hl1]; rfl, fun r hr' => ?_⟩
      rcases List.mem_append.mp hr' with h | h
      · exact hr r h
      · rw [List.mem_singleton.mp h]; exact hn
end K01

set_option maxHeartbeats 4000000
namespace K01
open PySem PySem.Spec PyProof.Rows L2 Iv
variable {k : Nat}
structure Rw where
  h : Nat
  rs : List Nat
def Rw.d (x : Rw) : D := .tuple [.int x.h, .tuple (x.rs.map intD)]
structure GoodW (m : Nat) (ws : List Rw) : Prop where
  pos : 1 ≤ ws.length
  len : ws.length ≤ 4
  fst : (ws.map Rw.h)[0]? = some 0
  up : ws.Pairwise fun a b => a.h < b.h
  hi : ∀ w ∈ ws, w.h ≤ 1000
  rl : ∀ w ∈ ws, w.rs.length = m
  rh : ∀ w ∈ ws, ∀ r ∈ w.rs, r ≤ 1000
theorem sorted_head {ls : List Int} (up : ls.Pairwise (· < ·)) (m0 : (0 : Int) ∈ ls) (pos : ∀ x ∈ ls, 0 ≤ x) : ls[0]? = some 0 := by
  cases ls with
  | nil => cases m0
  | cons x ls =>
    rcases List.mem_cons.mp m0 with h | h
    · rw [← h]; rfl
    · have := (List.pairwise_cons.mp up).1 0 h
      have := pos x List.mem_cons_self
      omega
theorem w_weather {ts : List Tb} {s : Int × Int} {Q : R × BSt → Prop} (ht : ∀ t ∈ ts, TbOk t) (hl : ts.length ≤ 3) (hs : bgOk s) (q : ∀ (ws : List Rw) (s' : Int × Int), GoodW ts.length ws → bgOk s' → Q (.fz (.tuple (ws.map Rw.d)), some s')) : wp (tbl.F whR 60 (k + 4) "_law_weather" [.bag, .fz (.tuple (ts.map Tb.d))] (some s)) Q := by
  rw [e__law_weather]
  refine wp_run rfl ?_
  unfold m__law_weather
  generalize hT : ts.map Tb.d = TD
  refine wp_seq ?_
  try simp only [frzS, frzs, frz1, retF, retS, ifS, skipS, andE, orE, notE, ifE, valF, vE, vV, kE, kV', callF, ar_nil, ar_cons, dn_fz, dn_ow, dn_bag, dn_scr, d_fz, d_ow, b_of, isiF, isD, blF, cmpF, chainF, orElse, lenS, bltF1, notT, andT, orT, tstF, l_list, l_tuple, l_all, l_listL, l_listT, l_tupL, l_tupT, l_abs, c_lt, c_le, c_gt, c_ge, c_eqI, c_neI, c_inS, c_niS, i_list, i_tuple, i_str, x_list, x_tuple, plainF, ixF, ixS, asgF, unpF, unF, setAll, List.length_cons, List.length_nil, List.map_cons, List.map_nil, if_true, if_false, List.cons_append, List.nil_append, List.append_nil, List.getElem?_cons_zero, List.getElem?_cons_succ, List.replicate, List.set_cons_zero, List.set_cons_succ, Option.bind_some, Option.map_some, Option.bind_none, Option.map_none, Bool.not_true, Bool.not_false, Bool.false_eq_true, Bool.or_false, Bool.or_true, Nat.reduceAdd, Nat.reduceSub, Nat.zero_add, decide_true, decide_false, Bool.true_and, Bool.false_and, Bool.and_true, Bool.and_false, wp_some, wp_none, wp_bind, wp_map, wp_if, binF, slF, partF, negE, y_list, y_tuple, lstF, tupF, ds_nil, ds_fz, setF, setS, appS, par2F, par3F, wp_frz, dict0, dict1, Iv.keyOf, kD, flatD, upF, revF, bltF2, swS, isiF2, lenOk_of, Nat.reduceLeDiff, b_add, b_sub]
  refine wp_seq ?_
  simp only [wp_frz, frzs, frz1, List.getElem?_cons_zero, List.getElem?_cons_succ, List.set_cons_zero, List.set_cons_succ]
  refine wp_forI (wp_range ?_)
  try simp only [frzS, frzs, frz1, retF, retS, ifS, skipS, andE, orE, notE, ifE, valF, vE, vV, kE, kV', callF, ar_nil, ar_cons, dn_fz, dn_ow, dn_bag, dn_scr, d_fz, d_ow, b_of, isiF, isD, blF, cmpF, chainF, orElse, lenS, bltF1, notT, andT, orT, tstF, l_list, l_tuple, l_all, l_listL, l_listT, l_tupL, l_tupT, l_abs, c_lt, c_le, c_gt, c_ge, c_eqI, c_neI, c_inS, c_niS, i_list, i_tuple, i_str, x_list, x_tuple, plainF, ixF, ixS, asgF, unpF, unF, setAll, List.length_cons, List.length_nil, List.map_cons, List.map_nil, if_true, if_false, List.cons_append, List.nil_append, List.append_nil, List.getElem?_cons_zero, List.getElem?_cons_succ, List.replicate, List.set_cons_zero, List.set_cons_succ, Option.bind_some, Option.map_some, Option.bind_none, Option.map_none, Bool.not_true, Bool.not_false, Bool.false_eq_true, Bool.or_false, Bool.or_true, Nat.reduceAdd, Nat.reduceSub, Nat.zero_add, decide_true, decide_false, Bool.true_and, Bool.false_and, Bool.and_true, Bool.and_false, wp_some, wp_none, wp_bind, wp_map, wp_if, binF, slF, partF, negE, y_list, y_tuple, lstF, tupF, ds_nil, ds_fz, setF, setS, appS, par2F, par3F, wp_frz, dict0, dict1, Iv.keyOf, kD, flatD, upF, revF, bltF2, swS, isiF2, lenOk_of, Nat.reduceLeDiff, b_add, b_sub]
  refine w_take hs (by omega) (by omega) fun i2 s5 _ _ b5 => ?_
  refine ⟨_, rfl, i2, rfl, by omega, by omega, ?_⟩
  refine wp_fl (fun c env st => ∃ (s : Int × Int) (kds : List (D × D)) (ks : List Int) (z3 : Option R), bgOk s ∧ st = some s ∧ env = [some .bag, some (.fz (.tuple TD)), some (.ow (.dict kds)), z3, none] ∧ KeySet kds ks ∧ ks.length ≤ c + 1 ∧ (∀ x ∈ ks, 0 ≤ x ∧ x ≤ 60) ∧ (0 : Int) ∈ ks) ⟨s5, _, [0], _, b5, rfl, rfl, ⟨rfl, by simp⟩, Nat.le_refl _, fun x hx => by rw [List.mem_singleton.mp hx]; omega, by simp⟩ ?b2 ?r2
  case b2 =>
    rintro c d env st hc ⟨s6, kds, ks, z3, b6, rfl, rfl, hK, hkl, hkb, h0⟩
    refine ⟨_, rfl, ?_⟩
    refine wp_seq ?_
    try simp only [frzS, frzs, frz1, retF, retS, ifS, skipS, andE, orE, notE, ifE, valF, vE, vV, kE, kV', callF, ar_nil, ar_cons, dn_fz, dn_ow, dn_bag, dn_scr, d_fz, d_ow, b_of, isiF, isD, blF, cmpF, chainF, orElse, lenS, bltF1, notT, andT, orT, tstF, l_list, l_tuple, l_all, l_listL, l_listT, l_tupL, l_tupT, l_abs, c_lt, c_le, c_gt, c_ge, c_eqI, c_neI, c_inS, c_niS, i_list, i_tuple, i_str, x_list, x_tuple, plainF, ixF, ixS, asgF, unpF, unF, setAll, List.length_cons, List.length_nil, List.map_cons, List.map_nil, if_true, if_false, List.cons_append, List.nil_append, List.append_nil, List.getElem?_cons_zero, List.getElem?_cons_succ, List.replicate, List.set_cons_zero, List.set_cons_succ, Option.bind_some, Option.map_some, Option.bind_none, Option.map_none, Bool.not_true, Bool.not_false, Bool.false_eq_true, Bool.or_false, Bool.or_true, Nat.reduceAdd, Nat.reduceSub, Nat.zero_add, decide_true, decide_false, Bool.true_and, Bool.false_and, Bool.and_true, Bool.and_false, wp_some, wp_none, wp_bind, wp_map, wp_if, binF, slF, partF, negE, y_list, y_tuple, lstF, tupF, ds_nil, ds_fz, setF, setS, appS, par2F, par3F, wp_frz, dict0, dict1, Iv.keyOf, kD, flatD, upF, revF, bltF2, swS, isiF2, lenOk_of, Nat.reduceLeDiff, b_add, b_sub]
    refine w_take b6 (by omega) (by omega) fun i3 s7 h30 h31 b7 => ?_
    try simp only [frzS, frzs, frz1, retF, retS, ifS, skipS, andE, orE, notE, ifE, valF, vE, vV, kE, kV', callF, ar_nil, ar_cons, dn_fz, dn_ow, dn_bag, dn_scr, d_fz, d_ow, b_of, isiF, isD, blF, cmpF, chainF, orElse, lenS, bltF1, notT, andT, orT, tstF, l_list, l_tuple, l_all, l_listL, l_listT, l_tupL, l_tupT, l_abs, c_lt, c_le, c_gt, c_ge, c_eqI, c_neI, c_inS, c_niS, i_list, i_tuple, i_str, x_list, x_tuple, plainF, ixF, ixS, asgF, unpF, unF, setAll, List.length_cons, List.length_nil, List.map_cons, List.map_nil, if_true, if_false, List.cons_append, List.nil_append, List.append_nil, List.getElem?_cons_zero, List.getElem?_cons_succ, List.replicate, List.set_cons_zero, List.set_cons_succ, Option.bind_some, Option.map_some, Option.bind_none, Option.map_none, Bool.not_true, Bool.not_false, Bool.false_eq_true, Bool.or_false, Bool.or_true, Nat.reduceAdd, Nat.reduceSub, Nat.zero_add, decide_true, decide_false, Bool.true_and, Bool.false_and, Bool.and_true, Bool.and_false, wp_some, wp_none, wp_bind, wp_map, wp_if, binF, slF, partF, negE, y_list, y_tuple, lstF, tupF, ds_nil, ds_fz, setF, setS, appS, par2F, par3F, wp_frz, dict0, dict1, Iv.keyOf, kD, flatD, upF, revF, bltF2, swS, isiF2, lenOk_of, Nat.reduceLeDiff, b_add, b_sub]
    refine wp_at (by omega) (by simp; omega) fun x hx => ?_
    obtain ⟨rt, rfl, hr0, hr1⟩ : ∃ rt : Int, x = .int rt ∧ 0 < rt ∧ rt ≤ 60 := by
      simp only [List.mem_cons, List.not_mem_nil, or_false] at hx
      rcases hx with rfl | rfl <;> exact ⟨_, rfl, by omega, by omega⟩
    try simp only [frzS, frzs, frz1, retF, retS, ifS, skipS, andE, orE, notE, ifE, valF, vE, vV, kE, kV', callF, ar_nil, ar_cons, dn_fz, dn_ow, dn_bag, dn_scr, d_fz, d_ow, b_of, isiF, isD, blF, cmpF, chainF, orElse, lenS, bltF1, notT, andT, orT, tstF, l_list, l_tuple, l_all, l_listL, l_listT, l_tupL, l_tupT, l_abs, c_lt, c_le, c_gt, c_ge, c_eqI, c_neI, c_inS, c_niS, i_list, i_tuple, i_str, x_list, x_tuple, plainF, ixF, ixS, asgF, unpF, unF, setAll, List.length_cons, List.length_nil, List.map_cons, List.map_nil, if_true, if_false, List.cons_append, List.nil_append, List.append_nil, List.getElem?_cons_zero, List.getElem?_cons_succ, List.replicate, List.set_cons_zero, List.set_cons_succ, Option.bind_some, Option.map_some, Option.bind_none, Option.map_none, Bool.not_true, Bool.not_false, Bool.false_eq_true, Bool.or_false, Bool.or_true, Nat.reduceAdd, Nat.reduceSub, Nat.zero_add, decide_true, decide_false, Bool.true_and, Bool.false_and, Bool.and_true, Bool.and_false, wp_some, wp_none, wp_bind, wp_map, wp_if, binF, slF, partF, negE, y_list, y_tuple, lstF, tupF, ds_nil, ds_fz, setF, setS, appS, par2F, par3F, wp_frz, dict0, dict1, Iv.keyOf, kD, flatD, upF, revF, bltF2, swS, isiF2, lenOk_of, Nat.reduceLeDiff, b_add, b_sub]
    refine w_take b7 (by omega) (by omega) fun i4 s8 h40 h41 b8 => ?_
    have hsz : kds.length < sizeLine := by
      rw [hK.eq, List.length_map, sizeLine_eq]
      have := (range_get hc).2
      omega
    try simp only [frzS, frzs, frz1, retF, retS, ifS, skipS, andE, orE, notE, ifE, valF, vE, vV, kE, kV', callF, ar_nil, ar_cons, dn_fz, dn_ow, dn_bag, dn_scr, d_fz, d_ow, b_of, isiF, isD, blF, cmpF, chainF, orElse, lenS, bltF1, notT, andT, orT, tstF, l_list, l_tuple, l_all, l_listL, l_listT, l_tupL, l_tupT, l_abs, c_lt, c_le, c_gt, c_ge, c_eqI, c_neI, c_inS, c_niS, i_list, i_tuple, i_str, x_list, x_tuple, plainF, ixF, ixS, asgF, unpF, unF, setAll, List.length_cons, List.length_nil, List.map_cons, List.map_nil, if_true, if_false, List.cons_append, List.nil_append, List.append_nil, List.getElem?_cons_zero, List.getElem?_cons_succ, List.replicate, List.set_cons_zero, List.set_cons_succ, Option.bind_some, Option.map_some, Option.bind_none, Option.map_none, Bool.not_true, Bool.not_false, Bool.false_eq_true, Bool.or_false, Bool.or_true, Nat.reduceAdd, Nat.reduceSub, Nat.zero_add, decide_true, decide_false, Bool.true_and, Bool.false_and, Bool.and_true, Bool.and_false, wp_some, wp_none, wp_bind, wp_map, wp_if, binF, slF, partF, negE, y_list, y_tuple, lstF, tupF, ds_nil, ds_fz, setF, setS, appS, par2F, par3F, wp_frz, dict0, dict1, Iv.keyOf, kD, flatD, upF, revF, bltF2, swS, isiF2, lenOk_of, Nat.reduceLeDiff, b_add, b_sub, hsz]
    obtain ⟨ks', hK', hm', hl'⟩ := keySet_put hK (1 + i4)
    refine ⟨s8, _, ks', _, b8, rfl, rfl, hK', by omega, fun x hx => ?_, (hm' 0).mpr (.inl h0)⟩
    rcases (hm' x).mp hx with hx | rfl
    · exact hkb x hx
    · omega
  case r2 =>
    rintro env st ⟨s6, kds, ks, z3, b6, rfl, rfl, hK, hkl, hkb, h0⟩
    rw [range_len] at hkl
    have so : blD1 .sorted (.dict kds) = some (.ow (.list ((isort ks).map .int))) := by
      show (keysI kds).bind _ = _
      rw [hK.eq, keysI_set]
      simp only [Option.bind_some]
      rw [if_pos (decide_eq_true (by omega))]
    have up := isort_lt hK.nd
    have mem : ∀ x ∈ isort ks, 0 ≤ x ∧ x ≤ 60 := fun x hx => hkb x ((isort_mem x ks).mp hx)
    have m0 : (0 : Int) ∈ isort ks := (isort_mem 0 ks).mpr h0
    have len : (isort ks).length = ks.length := (isort_perm ks).length_eq
    generalize isort ks = ls at so up mem len m0
    have hd := sorted_head up m0 fun x hx => (mem x hx).1
    refine wp_seq ?_
    try simp only [frzS, frzs, frz1, retF, retS, ifS, skipS, andE, orE, notE, ifE, valF, vE, vV, kE, kV', callF, ar_nil, ar_cons, dn_fz, dn_ow, dn_bag, dn_scr, d_fz, d_ow, b_of, isiF, isD, blF, cmpF, chainF, orElse, lenS, bltF1, notT, andT, orT, tstF, l_list, l_tuple, l_all, l_listL, l_listT, l_tupL, l_tupT, l_abs, c_lt, c_le, c_gt, c_ge, c_eqI, c_neI, c_inS, c_niS, i_list, i_tuple, i_str, x_list, x_tuple, plainF, ixF, ixS, asgF, unpF, unF, setAll, List.length_cons, List.length_nil, List.map_cons, List.map_nil, if_true, if_false, List.cons_append, List.nil_append, List.append_nil, List.getElem?_cons_zero, List.getElem?_cons_succ, List.replicate, List.set_cons_zero, List.set_cons_succ, Option.bind_some, Option.map_some, Option.bind_none, Option.map_none, Bool.not_true, Bool.not_false, Bool.false_eq_true, Bool.or_false, Bool.or_true, Nat.reduceAdd, Nat.reduceSub, Nat.zero_add, decide_true, decide_false, Bool.true_and, Bool.false_and, Bool.and_true, Bool.and_false, wp_some, wp_none, wp_bind, wp_map, wp_if, binF, slF, partF, negE, y_list, y_tuple, lstF, tupF, ds_nil, ds_fz, setF, setS, appS, par2F, par3F, wp_frz, dict0, dict1, Iv.keyOf, kD, flatD, upF, revF, bltF2, swS, isiF2, lenOk_of, Nat.reduceLeDiff, b_add, b_sub, so]
    refine wp_lcI ?_
    try simp only [frzS, frzs, frz1, retF, retS, ifS, skipS, andE, orE, notE, ifE, valF, vE, vV, kE, kV', callF, ar_nil, ar_cons, dn_fz, dn_ow, dn_bag, dn_scr, d_fz, d_ow, b_of, isiF, isD, blF, cmpF, chainF, orElse, lenS, bltF1, notT, andT, orT, tstF, l_list, l_tuple, l_all, l_listL, l_listT, l_tupL, l_tupT, l_abs, c_lt, c_le, c_gt, c_ge, c_eqI, c_neI, c_inS, c_niS, i_list, i_tuple, i_str, x_list, x_tuple, plainF, ixF, ixS, asgF, unpF, unF, setAll, List.length_cons, List.length_nil, List.map_cons, List.map_nil, if_true, if_false, List.cons_append, List.nil_append, List.append_nil, List.getElem?_cons_zero, List.getElem?_cons_succ, List.replicate, List.set_cons_zero, List.set_cons_succ, Option.bind_some, Option.map_some, Option.bind_none, Option.map_none, Bool.not_true, Bool.not_false, Bool.false_eq_true, Bool.or_false, Bool.or_true, Nat.reduceAdd, Nat.reduceSub, Nat.zero_add, decide_true, decide_false, Bool.true_and, Bool.false_and, Bool.and_true, Bool.and_false, wp_some, wp_none, wp_bind, wp_map, wp_if, binF, slF, partF, negE, y_list, y_tuple, lstF, tupF, ds_nil, ds_fz, setF, setS, appS, par2F, par3F, wp_frz, dict0, dict1, Iv.keyOf, kD, flatD, upF, revF, bltF2, swS, isiF2, lenOk_of, Nat.reduceLeDiff, b_add, b_sub, so]
    refine wp_ll (fun c acc st => ∃ (s : Int × Int) (ws : List Rw), bgOk s ∧ st = some s ∧ acc = ws.map Rw.d ∧ ws.map (fun x => (x.h : Int)) = ls.take c ∧ (∀ w ∈ ws, w.rs.length = ts.length) ∧ ∀ w ∈ ws, ∀ r ∈ w.rs, r ≤ 1000) ⟨s6, [], b6, rfl, rfl, rfl, fun _ h => by (cases h), fun _ h => by cases h⟩ (by rw [List.length_map]; omega) ?b3 ?r3
    case b3 =>
      rintro c d acc st hc ⟨s7, ws, b7, rfl, rfl, hh, h1, h2⟩
      rw [List.getElem?_map] at hc
      obtain ⟨lv, hlv, rfl⟩ := map1 hc
      refine ⟨_, rfl, ?_⟩
      try simp only [frzS, frzs, frz1, retF, retS, ifS, skipS, andE, orE, notE, ifE, valF, vE, vV, kE, kV', callF, ar_nil, ar_cons, dn_fz, dn_ow, dn_bag, dn_scr, d_fz, d_ow, b_of, isiF, isD, blF, cmpF, chainF, orElse, lenS, bltF1, notT, andT, orT, tstF, l_list, l_tuple, l_all, l_listL, l_listT, l_tupL, l_tupT, l_abs, c_lt, c_le, c_gt, c_ge, c_eqI, c_neI, c_inS, c_niS, i_list, i_tuple, i_str, x_list, x_tuple, plainF, ixF, ixS, asgF, unpF, unF, setAll, List.length_cons, List.length_nil, List.map_cons, List.map_nil, if_true, if_false, List.cons_append, List.nil_append, List.append_nil, List.getElem?_cons_zero, List.getElem?_cons_succ, List.replicate, List.set_cons_zero, List.set_cons_succ, Option.bind_some, Option.map_some, Option.bind_none, Option.map_none, Bool.not_true, Bool.not_false, Bool.false_eq_true, Bool.or_false, Bool.or_true, Nat.reduceAdd, Nat.reduceSub, Nat.zero_add, decide_true, decide_false, Bool.true_and, Bool.false_and, Bool.and_true, Bool.and_false, wp_some, wp_none, wp_bind, wp_map, wp_if, binF, slF, partF, negE, y_list, y_tuple, lstF, tupF, ds_nil, ds_fz, setF, setS, appS, par2F, par3F, wp_frz, dict0, dict1, Iv.keyOf, kD, flatD, upF, revF, bltF2, swS, isiF2, lenOk_of, Nat.reduceLeDiff, b_add, b_sub, yesT, wipeE]
      rw [← hT]
      refine w_rain ht hl b7 fun rs s8 hrl hr b8 => ?_
      have hlm := mem lv (List.mem_of_getElem? hlv)
      refine ⟨_, rfl, .tuple [.int lv, .tuple (rs.map intD)], rfl, s8, ws ++ [⟨lv.toNat, rs⟩], b8, rfl, ?_, ?_, fun w hw => ?_, fun w hw => ?_⟩
      · rw [List.map_append]
        show _ = _ ++ [PyData.tuple [.int ((lv.toNat : Nat) : Int), .tuple (rs.map intD)]]
        rw [show ((lv.toNat : Nat) : Int) = lv from by omega]
      · rw [List.map_append, hh, List.take_add_one, hlv]
        simp only [List.map_cons, List.map_nil, Option.toList_some]
        rw [show ((lv.toNat : Nat) : Int) = lv from by omega]
      · rcases List.mem_append.mp hw with h | h
        · exact h1 w h
        · rw [List.mem_singleton.mp h]; exact hrl
      · rcases List.mem_append.mp hw with h | h
        · exact h2 w h
        · rw [List.mem_singleton.mp h]; exact hr
    case r3 =>
      rintro acc st ⟨s7, ws, b7, rfl, rfl, hh, h1, h2⟩
      rw [List.length_map, List.take_length] at hh
      have hle : ws.length = ls.length := by have := congrArg List.length hh; rwa [List.length_map] at this
      have hin : ∀ x ∈ ws, (x.h : Int) ∈ ls := fun x hx => by rw [← hh]; exact List.mem_map_of_mem hx
      try simp only [frzS, frzs, frz1, retF, retS, ifS, skipS, andE, orE, notE, ifE, valF, vE, vV, kE, kV', callF, ar_nil, ar_cons, dn_fz, dn_ow, dn_bag, dn_scr, d_fz, d_ow, b_of, isiF, isD, blF, cmpF, chainF, orElse, lenS, bltF1, notT, andT, orT, tstF, l_list, l_tuple, l_all, l_listL, l_listT, l_tupL, l_tupT, l_abs, c_lt, c_le, c_gt, c_ge, c_eqI, c_neI, c_inS, c_niS, i_list, i_tuple, i_str, x_list, x_tuple, plainF, ixF, ixS, asgF, unpF, unF, setAll, List.length_cons, List.length_nil, List.map_cons, List.map_nil, if_true, if_false, List.cons_append, List.nil_append, List.append_nil, List.getElem?_cons_zero, List.getElem?_cons_succ, List.replicate, List.set_cons_zero, List.set_cons_succ, Option.bind_some, Option.map_some, Option.bind_none, Option.map_none, Bool.not_true, Bool.not_false, Bool.false_eq_true, Bool.or_false, Bool.or_true, Nat.reduceAdd, Nat.reduceSub, Nat.zero_add, decide_true, decide_false, Bool.true_and, Bool.false_and, Bool.and_true, Bool.and_false, wp_some, wp_none, wp_bind, wp_map, wp_if, binF, slF, partF, negE, y_list, y_tuple, lstF, tupF, ds_nil, ds_fz, setF, setS, appS, par2F, par3F, wp_frz, dict0, dict1, Iv.keyOf, kD, flatD, upF, revF, bltF2, swS, isiF2, lenOk_of, Nat.reduceLeDiff, b_add, b_sub]
      have hp : 1 ≤ ls.length := by
        have := (List.getElem?_eq_some_iff.mp hd).1
        omega
      refine q ws s7 ⟨by omega, by omega, ?_, ?_, fun w hw => ?_, h1, h2⟩ b7
      · rw [← hh, List.getElem?_map] at hd
        rw [List.getElem?_map]
        cases e : ws[0]? with
        | none => rw [e] at hd; cases hd
        | some w =>
          rw [e] at hd
          have : (w.h : Int) = 0 := Option.some.inj hd
          show some w.h = some 0
          rw [show w.h = 0 by omega]
      · rw [← hh, List.pairwise_map] at up
        exact up.imp fun h => by omega
      · have := mem _ (hin w hw)
        omega
end K01

set_option maxHeartbeats 4000000
namespace K01
open PySem PySem.Spec PyProof.Rows L2 Iv
variable {k : Nat}
structure Fr where
  t : Nat
  b : Nat
def Fr.d (x : Fr) : D := .tuple [.int x.t, .int x.b]
structure FrOk (x : Fr) : Prop where
  pos : 1 ≤ x.b
  gcd : Nat.gcd x.t x.b = 1
theorem fr_low {t b : Nat} (hb : 0 < b) : FrOk ⟨t / Nat.gcd t b, b / Nat.gcd t b⟩ := by
  have hg : 0 < Nat.gcd t b := Nat.gcd_pos_of_pos_right _ hb
  refine ⟨?_, ?_⟩
  · exact Nat.div_pos (Nat.le_of_dvd hb (Nat.gcd_dvd_right t b)) hg
  · have := Nat.gcd_div (Nat.gcd_dvd_left t b) (Nat.gcd_dvd_right t b)
    show Nat.gcd (t / Nat.gcd t b) (b / Nat.gcd t b) = 1
    rw [this, Nat.div_self hg]
theorem w_part {top : Nat} {s : Int × Int} {Q : R × BSt → Prop} (ht2 : top < 1000000000) (hs : bgOk s) (q : ∀ (x : Fr) (s' : Int × Int), FrOk x → x.t ≤ top → x.b ≤ 4 → bgOk s' → Q (.fz x.d, some s')) : wp (tbl.F whR 60 (k + 2) "_law_part" [.bag, .fz (.int (top : Nat))] (some s)) Q := by
  rw [e__law_part]
  refine wp_run rfl ?_
  unfold m__law_part
  refine wp_seq ?_
  try simp only [frzS, frzs, frz1, retF, retS, ifS, skipS, andE, orE, notE, ifE, valF, vE, vV, kE, kV', callF, ar_nil, ar_cons, dn_fz, dn_ow, dn_bag, dn_scr, d_fz, d_ow, b_of, isiF, isD, blF, cmpF, chainF, orElse, lenS, bltF1, notT, andT, orT, tstF, l_list, l_tuple, l_all, l_listL, l_listT, l_tupL, l_tupT, l_abs, c_lt, c_le, c_gt, c_ge, c_eqI, c_neI, c_inS, c_niS, i_list, i_tuple, i_str, x_list, x_tuple, plainF, ixF, ixS, asgF, unpF, unF, setAll, List.length_cons, List.length_nil, List.map_cons, List.map_nil, if_true, if_false, List.cons_append, List.nil_append, List.append_nil, List.getElem?_cons_zero, List.getElem?_cons_succ, List.replicate, List.set_cons_zero, List.set_cons_succ, Option.bind_some, Option.map_some, Option.bind_none, Option.map_none, Bool.not_true, Bool.not_false, Bool.false_eq_true, Bool.or_false, Bool.or_true, Nat.reduceAdd, Nat.reduceSub, Nat.zero_add, decide_true, decide_false, Bool.true_and, Bool.false_and, Bool.and_true, Bool.and_false, wp_some, wp_none, wp_bind, wp_map, wp_if, binF, slF, partF, negE, y_list, y_tuple, lstF, tupF, ds_nil, ds_fz, setF, setS, appS, par2F, par3F, wp_frz, dict0, dict1, Iv.keyOf, kD, flatD, upF, revF, bltF2, swS, isiF2, lenOk_of, Nat.reduceLeDiff, b_add, b_sub]
  refine w_take hs (by omega) (by omega) fun i s1 i0 i1 b1 => ?_
  try simp only [frzS, frzs, frz1, retF, retS, ifS, skipS, andE, orE, notE, ifE, valF, vE, vV, kE, kV', callF, ar_nil, ar_cons, dn_fz, dn_ow, dn_bag, dn_scr, d_fz, d_ow, b_of, isiF, isD, blF, cmpF, chainF, orElse, lenS, bltF1, notT, andT, orT, tstF, l_list, l_tuple, l_all, l_listL, l_listT, l_tupL, l_tupT, l_abs, c_lt, c_le, c_gt, c_ge, c_eqI, c_neI, c_inS, c_niS, i_list, i_tuple, i_str, x_list, x_tuple, plainF, ixF, ixS, asgF, unpF, unF, setAll, List.length_cons, List.length_nil, List.map_cons, List.map_nil, if_true, if_false, List.cons_append, List.nil_append, List.append_nil, List.getElem?_cons_zero, List.getElem?_cons_succ, List.replicate, List.set_cons_zero, List.set_cons_succ, Option.bind_some, Option.map_some, Option.bind_none, Option.map_none, Bool.not_true, Bool.not_false, Bool.false_eq_true, Bool.or_false, Bool.or_true, Nat.reduceAdd, Nat.reduceSub, Nat.zero_add, decide_true, decide_false, Bool.true_and, Bool.false_and, Bool.and_true, Bool.and_false, wp_some, wp_none, wp_bind, wp_map, wp_if, binF, slF, partF, negE, y_list, y_tuple, lstF, tupF, ds_nil, ds_fz, setF, setS, appS, par2F, par3F, wp_frz, dict0, dict1, Iv.keyOf, kD, flatD, upF, revF, bltF2, swS, isiF2, lenOk_of, Nat.reduceLeDiff, b_add, b_sub]
  refine w_take b1 (by omega) (by omega) fun j s2 j0 j1 b2 => ?_
  try simp only [frzS, frzs, frz1, retF, retS, ifS, skipS, andE, orE, notE, ifE, valF, vE, vV, kE, kV', callF, ar_nil, ar_cons, dn_fz, dn_ow, dn_bag, dn_scr, d_fz, d_ow, b_of, isiF, isD, blF, cmpF, chainF, orElse, lenS, bltF1, notT, andT, orT, tstF, l_list, l_tuple, l_all, l_listL, l_listT, l_tupL, l_tupT, l_abs, c_lt, c_le, c_gt, c_ge, c_eqI, c_neI, c_inS, c_niS, i_list, i_tuple, i_str, x_list, x_tuple, plainF, ixF, ixS, asgF, unpF, unF, setAll, List.length_cons, List.length_nil, List.map_cons, List.map_nil, if_true, if_false, List.cons_append, List.nil_append, List.append_nil, List.getElem?_cons_zero, List.getElem?_cons_succ, List.replicate, List.set_cons_zero, List.set_cons_succ, Option.bind_some, Option.map_some, Option.bind_none, Option.map_none, Bool.not_true, Bool.not_false, Bool.false_eq_true, Bool.or_false, Bool.or_true, Nat.reduceAdd, Nat.reduceSub, Nat.zero_add, decide_true, decide_false, Bool.true_and, Bool.false_and, Bool.and_true, Bool.and_false, wp_some, wp_none, wp_bind, wp_map, wp_if, binF, slF, partF, negE, y_list, y_tuple, lstF, tupF, ds_nil, ds_fz, setF, setS, appS, par2F, par3F, wp_frz, dict0, dict1, Iv.keyOf, kD, flatD, upF, revF, bltF2, swS, isiF2, lenOk_of, Nat.reduceLeDiff, b_add, b_sub]
  refine wp_at (by omega) (by simp; omega) fun x hx => ?_
  obtain ⟨rt, rfl, hr0, hr1⟩ : ∃ rt : Int, x = .int rt ∧ 0 < rt ∧ rt ≤ 4 := by
    simp only [List.mem_cons, List.not_mem_nil, or_false] at hx
    rcases hx with rfl | rfl <;> exact ⟨_, rfl, by omega, by omega⟩
  try simp only [frzS, frzs, frz1, retF, retS, ifS, skipS, andE, orE, notE, ifE, valF, vE, vV, kE, kV', callF, ar_nil, ar_cons, dn_fz, dn_ow, dn_bag, dn_scr, d_fz, d_ow, b_of, isiF, isD, blF, cmpF, chainF, orElse, lenS, bltF1, notT, andT, orT, tstF, l_list, l_tuple, l_all, l_listL, l_listT, l_tupL, l_tupT, l_abs, c_lt, c_le, c_gt, c_ge, c_eqI, c_neI, c_inS, c_niS, i_list, i_tuple, i_str, x_list, x_tuple, plainF, ixF, ixS, asgF, unpF, unF, setAll, List.length_cons, List.length_nil, List.map_cons, List.map_nil, if_true, if_false, List.cons_append, List.nil_append, List.append_nil, List.getElem?_cons_zero, List.getElem?_cons_succ, List.replicate, List.set_cons_zero, List.set_cons_succ, Option.bind_some, Option.map_some, Option.bind_none, Option.map_none, Bool.not_true, Bool.not_false, Bool.false_eq_true, Bool.or_false, Bool.or_true, Nat.reduceAdd, Nat.reduceSub, Nat.zero_add, decide_true, decide_false, Bool.true_and, Bool.false_and, Bool.and_true, Bool.and_false, wp_some, wp_none, wp_bind, wp_map, wp_if, binF, slF, partF, negE, y_list, y_tuple, lstF, tupF, ds_nil, ds_fz, setF, setS, appS, par2F, par3F, wp_frz, dict0, dict1, Iv.keyOf, kD, flatD, upF, revF, bltF2, swS, isiF2, lenOk_of, Nat.reduceLeDiff, b_add, b_sub]
  refine w_take b2 (by omega) (by omega) fun l s3 l0 l1 b3 => ?_
  have h4 := f_law_lowest (k := k) (st := some s3) i.toNat (1 + l).toNat (by omega) (Nat.lt_of_lt_of_le (show (1 + l).toNat < 2 ^ 3 by omega) (Nat.pow_le_pow_right (by decide) (show 3 ≤ 1000 by decide)))
  rw [show ((i.toNat : Nat) : Int) = i from by omega, show (((1 + l).toNat : Nat) : Int) = 1 + l from by omega] at h4
  have ok := fr_low (t := i.toNat) (b := (1 + l).toNat) (by omega)
  have le1 : i.toNat / Nat.gcd i.toNat (1 + l).toNat ≤ i.toNat := Nat.div_le_self _ _
  have le2 : (1 + l).toNat / Nat.gcd i.toNat (1 + l).toNat ≤ (1 + l).toNat := Nat.div_le_self _ _
  try simp only [frzS, frzs, frz1, retF, retS, ifS, skipS, andE, orE, notE, ifE, valF, vE, vV, kE, kV', callF, ar_nil, ar_cons, dn_fz, dn_ow, dn_bag, dn_scr, d_fz, d_ow, b_of, isiF, isD, blF, cmpF, chainF, orElse, lenS, bltF1, notT, andT, orT, tstF, l_list, l_tuple, l_all, l_listL, l_listT, l_tupL, l_tupT, l_abs, c_lt, c_le, c_gt, c_ge, c_eqI, c_neI, c_inS, c_niS, i_list, i_tuple, i_str, x_list, x_tuple, plainF, ixF, ixS, asgF, unpF, unF, setAll, List.length_cons, List.length_nil, List.map_cons, List.map_nil, if_true, if_false, List.cons_append, List.nil_append, List.append_nil, List.getElem?_cons_zero, List.getElem?_cons_succ, List.replicate, List.set_cons_zero, List.set_cons_succ, Option.bind_some, Option.map_some, Option.bind_none, Option.map_none, Bool.not_true, Bool.not_false, Bool.false_eq_true, Bool.or_false, Bool.or_true, Nat.reduceAdd, Nat.reduceSub, Nat.zero_add, decide_true, decide_false, Bool.true_and, Bool.false_and, Bool.and_true, Bool.and_false, wp_some, wp_none, wp_bind, wp_map, wp_if, binF, slF, partF, negE, y_list, y_tuple, lstF, tupF, ds_nil, ds_fz, setF, setS, appS, par2F, par3F, wp_frz, dict0, dict1, Iv.keyOf, kD, flatD, upF, revF, bltF2, swS, isiF2, lenOk_of, Nat.reduceLeDiff, b_add, b_sub]
  refine wp_eq h4 ?_
  try simp only [frzS, frzs, frz1, retF, retS, ifS, skipS, andE, orE, notE, ifE, valF, vE, vV, kE, kV', callF, ar_nil, ar_cons, dn_fz, dn_ow, dn_bag, dn_scr, d_fz, d_ow, b_of, isiF, isD, blF, cmpF, chainF, orElse, lenS, bltF1, notT, andT, orT, tstF, l_list, l_tuple, l_all, l_listL, l_listT, l_tupL, l_tupT, l_abs, c_lt, c_le, c_gt, c_ge, c_eqI, c_neI, c_inS, c_niS, i_list, i_tuple, i_str, x_list, x_tuple, plainF, ixF, ixS, asgF, unpF, unF, setAll, List.length_cons, List.length_nil, List.map_cons, List.map_nil, if_true, if_false, List.cons_append, List.nil_append, List.append_nil, List.getElem?_cons_zero, List.getElem?_cons_succ, List.replicate, List.set_cons_zero, List.set_cons_succ, Option.bind_some, Option.map_some, Option.bind_none, Option.map_none, Bool.not_true, Bool.not_false, Bool.false_eq_true, Bool.or_false, Bool.or_true, Nat.reduceAdd, Nat.reduceSub, Nat.zero_add, decide_true, decide_false, Bool.true_and, Bool.false_and, Bool.and_true, Bool.and_false, wp_some, wp_none, wp_bind, wp_map, wp_if, binF, slF, partF, negE, y_list, y_tuple, lstF, tupF, ds_nil, ds_fz, setF, setS, appS, par2F, par3F, wp_frz, dict0, dict1, Iv.keyOf, kD, flatD, upF, revF, bltF2, swS, isiF2, lenOk_of, Nat.reduceLeDiff, b_add, b_sub]
  exact q ⟨_, _⟩ s3 ok (Nat.le_trans le1 (by omega)) (Nat.le_trans le2 (by omega)) b3
theorem w_beginning {ts : List Tb} {s : Int × Int} {Q : R × BSt → Prop} (ht : ∀ t ∈ ts, TbOk t) (hl : ts.length ≤ 3) (hs : bgOk s) (q : ∀ (xs : List Fr) (s' : Int × Int), xs.length = ts.length → (∀ x ∈ xs, FrOk x) → (∀ x ∈ xs, x.t ≤ 1000 ∧ x.b ≤ 4) → bgOk s' → Q (.fz (.tuple (xs.map Fr.d)), some s')) : wp (tbl.F whR 60 (k + 3) "_law_beginning" [.bag, .fz (.tuple (ts.map Tb.d))] (some s)) Q := by
  rw [e__law_beginning]
  refine wp_run rfl ?_
  unfold m__law_beginning
  refine wp_seq ?_
  try simp only [frzS, frzs, frz1, retF, retS, ifS, skipS, andE, orE, notE, ifE, valF, vE, vV, kE, kV', callF, ar_nil, ar_cons, dn_fz, dn_ow, dn_bag, dn_scr, d_fz, d_ow, b_of, isiF, isD, blF, cmpF, chainF, orElse, lenS, bltF1, notT, andT, orT, tstF, l_list, l_tuple, l_all, l_listL, l_listT, l_tupL, l_tupT, l_abs, c_lt, c_le, c_gt, c_ge, c_eqI, c_neI, c_inS, c_niS, i_list, i_tuple, i_str, x_list, x_tuple, plainF, ixF, ixS, asgF, unpF, unF, setAll, List.length_cons, List.length_nil, List.map_cons, List.map_nil, if_true, if_false, List.cons_append, List.nil_append, List.append_nil, List.getElem?_cons_zero, List.getElem?_cons_succ, List.replicate, List.set_cons_zero, List.set_cons_succ, Option.bind_some, Option.map_some, Option.bind_none, Option.map_none, Bool.not_true, Bool.not_false, Bool.false_eq_true, Bool.or_false, Bool.or_true, Nat.reduceAdd, Nat.reduceSub, Nat.zero_add, decide_true, decide_false, Bool.true_and, Bool.false_and, Bool.and_true, Bool.and_false, wp_some, wp_none, wp_bind, wp_map, wp_if, binF, slF, partF, negE, y_list, y_tuple, lstF, tupF, ds_nil, ds_fz, setF, setS, appS, par2F, par3F, wp_frz, dict0, dict1, Iv.keyOf, kD, flatD, upF, revF, bltF2, swS, isiF2, lenOk_of, Nat.reduceLeDiff, b_add, b_sub]
  refine wp_seq ?_
  refine wp_for (ds := ts.map Tb.d) (st1 := some s) (I := fun i env st => ∃ (s : Int × Int) (xs : List Fr) (z3 z4 z5 z6 z7 : Option R), bgOk s ∧ st = some s ∧ env = [some .bag, some (.fz (.tuple (ts.map Tb.d))), some (.ow (.list (xs.map Fr.d))), z3, z4, z5, z6, z7] ∧ xs.length = i ∧ (∀ x ∈ xs, FrOk x) ∧ (∀ x ∈ xs, x.t ≤ 1000 ∧ x.b ≤ 4)) rfl ⟨s, [], _, _, _, _, _, hs, rfl, rfl, rfl, fun r hr => by (cases hr), fun r hr => by cases hr⟩ ?body ?rest
  case rest =>
    rintro env st ⟨s1, xs, z3, z4, z5, z6, z7, b1, rfl, rfl, hl1, hr, hb⟩
    refine wp_seq ?_
    try simp only [frzS, frzs, frz1, retF, retS, ifS, skipS, andE, orE, notE, ifE, valF, vE, vV, kE, kV', callF, ar_nil, ar_cons, dn_fz, dn_ow, dn_bag, dn_scr, d_fz, d_ow, b_of, isiF, isD, blF, cmpF, chainF, orElse, lenS, bltF1, notT, andT, orT, tstF, l_list, l_tuple, l_all, l_listL, l_listT, l_tupL, l_tupT, l_abs, c_lt, c_le, c_gt, c_ge, c_eqI, c_neI, c_inS, c_niS, i_list, i_tuple, i_str, x_list, x_tuple, plainF, ixF, ixS, asgF, unpF, unF, setAll, List.length_cons, List.length_nil, List.map_cons, List.map_nil, if_true, if_false, List.cons_append, List.nil_append, List.append_nil, List.getElem?_cons_zero, List.getElem?_cons_succ, List.replicate, List.set_cons_zero, List.set_cons_succ, Option.bind_some, Option.map_some, Option.bind_none, Option.map_none, Bool.not_true, Bool.not_false, Bool.false_eq_true, Bool.or_false, Bool.or_true, Nat.reduceAdd, Nat.reduceSub, Nat.zero_add, decide_true, decide_false, Bool.true_and, Bool.false_and, Bool.and_true, Bool.and_false, wp_some, wp_none, wp_bind, wp_map, wp_if, binF, slF, partF, negE, y_list, y_tuple, lstF, tupF, ds_nil, ds_fz, setF, setS, appS, par2F, par3F, wp_frz, dict0, dict1, Iv.keyOf, kD, flatD, upF, revF, bltF2, swS, isiF2, lenOk_of, Nat.reduceLeDiff, b_add, b_sub]
    exact q xs s1 (by rw [hl1, List.length_map]) hr hb b1
  case body =>
    rintro i d env st hd ⟨s1, xs, z3, z4, z5, z6, z7, b1, rfl, rfl, hl1, hr, hb⟩
    rw [List.getElem?_map] at hd
    obtain ⟨t, htt, rfl⟩ := map1 hd
    have tok := ht t (List.mem_of_getElem? htt)
    have tl := tok.len
    refine ⟨_, rfl, ?_⟩
    refine wp_seq ?_
    generalize ts.map Tb.d = TD
    try simp only [frzS, frzs, frz1, retF, retS, ifS, skipS, andE, orE, notE, ifE, valF, vE, vV, kE, kV', callF, ar_nil, ar_cons, dn_fz, dn_ow, dn_bag, dn_scr, d_fz, d_ow, b_of, isiF, isD, blF, cmpF, chainF, orElse, lenS, bltF1, notT, andT, orT, tstF, l_list, l_tuple, l_all, l_listL, l_listT, l_tupL, l_tupT, l_abs, c_lt, c_le, c_gt, c_ge, c_eqI, c_neI, c_inS, c_niS, i_list, i_tuple, i_str, x_list, x_tuple, plainF, ixF, ixS, asgF, unpF, unF, setAll, List.length_cons, List.length_nil, List.map_cons, List.map_nil, if_true, if_false, List.cons_append, List.nil_append, List.append_nil, List.getElem?_cons_zero, List.getElem?_cons_succ, List.replicate, List.set_cons_zero, List.set_cons_succ, Option.bind_some, Option.map_some, Option.bind_none, Option.map_none, Bool.not_true, Bool.not_false, Bool.false_eq_true, Bool.or_false, Bool.or_true, Nat.reduceAdd, Nat.reduceSub, Nat.zero_add, decide_true, decide_false, Bool.true_and, Bool.false_and, Bool.and_true, Bool.and_false, wp_some, wp_none, wp_bind, wp_map, wp_if, binF, slF, partF, negE, y_list, y_tuple, lstF, tupF, ds_nil, ds_fz, setF, setS, appS, par2F, par3F, wp_frz, dict0, dict1, Iv.keyOf, kD, flatD, upF, revF, bltF2, swS, isiF2, lenOk_of, Nat.reduceLeDiff, b_add, b_sub, Tb.d]
    refine w_part (top := 15) (by omega) b1 fun y s2 hy hyt hyb b2 => ?_
    have l2 : ∀ (z6 z7 : Option R), lcF (plainF (vE 5)) [7] (setF 7) yesT (tupF (argsF [(orElse (ixS 7 (valF (kE (.int 0)))) (ixF (vV 7) (valF (kE (.int 0))))), (kE (.int 1))])) [some .bag, some (.fz (.tuple TD)), some (.ow (.list (xs.map Fr.d))), some (.fz (.str t.n)), some (.fz (.int t.g)), some (.fz (.tuple (t.hs.map Hl.d))), z6, z7] (some s2) = some (.ow (.list (t.hs.map fun x => Fr.d ⟨x.h, 1⟩)), some s2) := fun z6 z7 => by
      have := lcF_map (st := some s2) (i := plainF (vE 5)) (own := [7]) (g := setF 7) (e := tupF (argsF [(orElse (ixS 7 (valF (kE (.int 0)))) (ixF (vV 7) (valF (kE (.int 0))))), (kE (.int 1))])) (env := [some .bag, some (.fz (.tuple TD)), some (.ow (.list (xs.map Fr.d))), some (.fz (.str t.n)), some (.fz (.int t.g)), some (.fz (.tuple (t.hs.map Hl.d))), z6, z7]) (ds := t.hs.map Hl.d) (fun d => match d with | .tuple [.int a, _, _] => .tuple [.int a, .int 1] | _ => .none) rfl (fun d hd => by
        obtain ⟨x, _, rfl⟩ := List.mem_map.mp hd
        exact ⟨_, _, rfl, rfl, rfl⟩) (by rw [List.length_map, sizeLine_eq]; omega)
      rw [this, List.map_map]
      rfl
    have a1 : binD .Add (.list [PyData.tuple [.int 0, .int 1], y.d]) (.list (t.hs.map fun x => Fr.d ⟨x.h, 1⟩)) = some (.ow (.list ((([⟨0, 1⟩, y] : List Fr) ++ t.hs.map fun x => (⟨x.h, 1⟩ : Fr)).map Fr.d))) := by
      rw [b_addL (by rw [List.length_map]; simp only [List.length_cons, List.length_nil]; omega), List.map_append, List.map_map]
      rfl
    have hL : ∀ x ∈ ([⟨0, 1⟩, y] : List Fr) ++ t.hs.map fun x => (⟨x.h, 1⟩ : Fr), FrOk x ∧ x.t ≤ 1000 ∧ x.b ≤ 4 := fun x hx => by
      rcases List.mem_append.mp hx with hx | hx
      · rcases List.mem_cons.mp hx with rfl | hx
        · exact ⟨⟨Nat.le_refl _, rfl⟩, Nat.zero_le _, (show (1 : Nat) ≤ 4 by omega)⟩
        · rw [List.mem_singleton.mp hx]; exact ⟨hy, by omega, hyb⟩
      · obtain ⟨z, hz, rfl⟩ := List.mem_map.mp hx
        exact ⟨⟨Nat.le_refl _, Nat.gcd_one_right _⟩, tok.hi z hz, (show (1 : Nat) ≤ 4 by omega)⟩
    have nL : ((([⟨0, 1⟩, y] : List Fr) ++ t.hs.map fun x => (⟨x.h, 1⟩ : Fr)).map Fr.d) ≠ [] := by simp
    have lL : ((([⟨0, 1⟩, y] : List Fr) ++ t.hs.map fun x => (⟨x.h, 1⟩ : Fr)).map Fr.d).length ≤ 1000000 := by rw [List.length_map, List.length_append, List.length_map]; simp only [List.length_cons, List.length_nil]; omega
    generalize (([⟨0, 1⟩, y] : List Fr) ++ t.hs.map fun x => (⟨x.h, 1⟩ : Fr)) = LL at a1 hL nL lL
    try simp only [frzS, frzs, frz1, retF, retS, ifS, skipS, andE, orE, notE, ifE, valF, vE, vV, kE, kV', callF, ar_nil, ar_cons, dn_fz, dn_ow, dn_bag, dn_scr, d_fz, d_ow, b_of, isiF, isD, blF, cmpF, chainF, orElse, lenS, bltF1, notT, andT, orT, tstF, l_list, l_tuple, l_all, l_listL, l_listT, l_tupL, l_tupT, l_abs, c_lt, c_le, c_gt, c_ge, c_eqI, c_neI, c_inS, c_niS, i_list, i_tuple, i_str, x_list, x_tuple, plainF, ixF, ixS, asgF, unpF, unF, setAll, List.length_cons, List.length_nil, List.map_cons, List.map_nil, if_true, if_false, List.cons_append, List.nil_append, List.append_nil, List.getElem?_cons_zero, List.getElem?_cons_succ, List.replicate, List.set_cons_zero, List.set_cons_succ, Option.bind_some, Option.map_some, Option.bind_none, Option.map_none, Bool.not_true, Bool.not_false, Bool.false_eq_true, Bool.or_false, Bool.or_true, Nat.reduceAdd, Nat.reduceSub, Nat.zero_add, decide_true, decide_false, Bool.true_and, Bool.false_and, Bool.and_true, Bool.and_false, wp_some, wp_none, wp_bind, wp_map, wp_if, binF, slF, partF, negE, y_list, y_tuple, lstF, tupF, ds_nil, ds_fz, setF, setS, appS, par2F, par3F, wp_frz, dict0, dict1, Iv.keyOf, kD, flatD, upF, revF, bltF2, swS, isiF2, lenOk_of, Nat.reduceLeDiff, b_add, b_sub, l2, a1]
    refine wp_seq ?_
    have sz : (xs.map Fr.d).length < sizeLine := by
      have := (List.getElem?_eq_some_iff.mp htt).1
      rw [List.length_map, sizeLine_eq]; omega
    try simp only [frzS, frzs, frz1, retF, retS, ifS, skipS, andE, orE, notE, ifE, valF, vE, vV, kE, kV', callF, ar_nil, ar_cons, dn_fz, dn_ow, dn_bag, dn_scr, d_fz, d_ow, b_of, isiF, isD, blF, cmpF, chainF, orElse, lenS, bltF1, notT, andT, orT, tstF, l_list, l_tuple, l_all, l_listL, l_listT, l_tupL, l_tupT, l_abs, c_lt, c_le, c_gt, c_ge, c_eqI, c_neI, c_inS, c_niS, i_list, i_tuple, i_str, x_list, x_tuple, plainF, ixF, ixS, asgF, unpF, unF, setAll, List.length_cons, List.length_nil, List.map_cons, List.map_nil, if_true, if_false, List.cons_append, List.nil_append, List.append_nil, List.getElem?_cons_zero, List.getElem?_cons_succ, List.replicate, List.set_cons_zero, List.set_cons_succ, Option.bind_some, Option.map_some, Option.bind_none, Option.map_none, Bool.not_true, Bool.not_false, Bool.false_eq_true, Bool.or_false, Bool.or_true, Nat.reduceAdd, Nat.reduceSub, Nat.zero_add, decide_true, decide_false, Bool.true_and, Bool.false_and, Bool.and_true, Bool.and_false, wp_some, wp_none, wp_bind, wp_map, wp_if, binF, slF, partF, negE, y_list, y_tuple, lstF, tupF, ds_nil, ds_fz, setF, setS, appS, par2F, par3F, wp_frz, dict0, dict1, Iv.keyOf, kD, flatD, upF, revF, bltF2, swS, isiF2, lenOk_of, Nat.reduceLeDiff, b_add, b_sub]
    refine w_of b2 nL lL fun x s3 hx b3 => ?_
    obtain ⟨x, hx1, rfl⟩ := List.mem_map.mp hx
    try simp only [frzS, frzs, frz1, retF, retS, ifS, skipS, andE, orE, notE, ifE, valF, vE, vV, kE, kV', callF, ar_nil, ar_cons, dn_fz, dn_ow, dn_bag, dn_scr, d_fz, d_ow, b_of, isiF, isD, blF, cmpF, chainF, orElse, lenS, bltF1, notT, andT, orT, tstF, l_list, l_tuple, l_all, l_listL, l_listT, l_tupL, l_tupT, l_abs, c_lt, c_le, c_gt, c_ge, c_eqI, c_neI, c_inS, c_niS, i_list, i_tuple, i_str, x_list, x_tuple, plainF, ixF, ixS, asgF, unpF, unF, setAll, List.length_cons, List.length_nil, List.map_cons, List.map_nil, if_true, if_false, List.cons_append, List.nil_append, List.append_nil, List.getElem?_cons_zero, List.getElem?_cons_succ, List.replicate, List.set_cons_zero, List.set_cons_succ, Option.bind_some, Option.map_some, Option.bind_none, Option.map_none, Bool.not_true, Bool.not_false, Bool.false_eq_true, Bool.or_false, Bool.or_true, Nat.reduceAdd, Nat.reduceSub, Nat.zero_add, decide_true, decide_false, Bool.true_and, Bool.false_and, Bool.and_true, Bool.and_false, wp_some, wp_none, wp_bind, wp_map, wp_if, binF, slF, partF, negE, y_list, y_tuple, lstF, tupF, ds_nil, ds_fz, setF, setS, appS, par2F, par3F, wp_frz, dict0, dict1, Iv.keyOf, kD, flatD, upF, revF, bltF2, swS, isiF2, lenOk_of, Nat.reduceLeDiff, b_add, b_sub, sz]
    have e9 : xs.map Fr.d ++ [x.d] = (xs ++ [x]).map Fr.d := by rw [List.map_append]; rfl
    rw [e9]
    refine ⟨s3, xs ++ [x], _, _, _, _, _, b3, rfl, rfl, by rw [List.length_append, hl1]; rfl, fun r hr' => ?_, fun r hr' => ?_⟩
    · rcases List.mem_append.mp hr' with h | h
      · exact hr r h
      · rw [List.mem_singleton.mp h]; exact (hL x hx1).1
    · rcases List.mem_append.mp hr' with h | h
      · exact hb r h
      · rw [List.mem_singleton.mp h]; exact (hL x hx1).2
end K01

set_option maxHeartbeats 4000000
namespace K01
open PySem PySem.Spec PyProof.Rows L2 Iv
variable {k : Nat}
/-! ### data that was spoilt so many times -/
def asc (z : Str) : Prop := ∀ c ∈ z.cps.toList, c < 128
theorem asc_ok {z : Str} (h : asc z) : PyData.strOk z = true := by
  show z.cps.all (fun c => decide (c < 0x110000)) = true
  rw [Array.all_eq_true']
  intro c hc
  have := h c (by simpa using hc)
  exact decide_eq_true (by omega)
theorem asc_app {x y : Str} (hx : asc x) (hy : asc y) : asc (x ++ y) := fun c hc => by
  rw [PySem.Str.cps_append, Array.toList_append] at hc
  rcases List.mem_append.mp hc with h | h
  · exact hx c h
  · exact hy c h
theorem asc_cut {z : Str} (h : asc z) (lo hi : Option Int) : asc (cutS z lo hi) := fun c hc => by
  refine h c ?_
  unfold cutS at hc

  exact List.mem_of_mem_drop (List.mem_of_mem_take hc)
theorem asc_upper : ∀ (l : List Nat), (∀ c ∈ l, c < 128) → asc (Txt.upper ⟨l.toArray⟩) ∧ (Txt.upper ⟨l.toArray⟩).length = l.length
  | [], _ => by
    have e : Txt.upper ⟨[].toArray⟩ = ⟨#[]⟩ := by decide +kernel
    rw [e]
    exact ⟨fun c hc => by simp at hc, rfl⟩
  | c :: l, h => by
    have e : (⟨(c :: l).toArray⟩ : Str) = ⟨#[c]⟩ ++ ⟨l.toArray⟩ := by
      refine PySem.Str.ext' ?_
      rw [PySem.Str.cps_append]
      simp
    obtain ⟨h1, h2⟩ := asc_upper l fun d hd => h d (List.mem_cons_of_mem _ hd)
    have hc := h c List.mem_cons_self
    rw [e, PySem.W.KOpn.upper_app, PySem.W.KOpn.upper_one hc]
    refine ⟨asc_app (fun d hd => ?_) h1, ?_⟩
    · have hd : d = if 97 ≤ c ∧ c ≤ 122 then c - 32 else c := by simpa using hd
      rw [hd]; split <;> omega
    · rw [PySem.Str.length_append, h2, List.length_cons, Nat.add_comm]; rfl
theorem asc_up {z : Str} (h : asc z) : asc (Txt.upper z) ∧ (Txt.upper z).length = z.length := by
  obtain ⟨⟨l⟩⟩ := z
  exact asc_upper l h
theorem asc_int (i : Int) : asc (Str.ofString (toString i)) := fun c hc => by
  refine Classical.byContradiction fun z => ?_
  exact int_text_free' c ⟨by omega, by omega⟩ i hc
inductive Sp (n : Nat) : D → Prop
  | non : Sp n .none
  | bl (b : Bool) : Sp n (.bool b)
  | int {i : Int} : i.natAbs ≤ 1000000000000000000000000000000 + 1000 * n → Sp n (.int i)
  | str {z : Str} : z.length ≤ 17 * 2 ^ n → asc z → Sp n (.str z)
  | lst {xs : List D} : xs.length ≤ 20 + n → (∀ x ∈ xs, Sp n x) → Sp n (.list xs)
  | tup {xs : List D} : xs.length ≤ 20 + n → (∀ x ∈ xs, Sp n x) → Sp n (.tuple xs)
theorem Sp.up {n : Nat} {d : D} (h : Sp n d) : Sp (n + 1) d := by
  induction h with
  | non => exact .non
  | bl b => exact .bl b
  | int h => exact .int (by omega)
  | str h a => exact .str (by rw [Nat.pow_succ]; omega) a
  | lst h _ ih => exact .lst (by omega) ih
  | tup h _ ih => exact .tup (by omega) ih
theorem gdAll_of {xs : List D} (h : ∀ x ∈ xs, gd x = true) : gdAll xs = true := by
  induction xs with
  | nil => rfl
  | cons x xs ih => simp only [gdAll, Bool.and_eq_true]; exact ⟨h x List.mem_cons_self, ih fun y hy => h y (List.mem_cons_of_mem _ hy)⟩
theorem Sp.gd {n : Nat} {d : D} (hn : n ≤ 5) (h : Sp n d) : K01.gd d = true := by
  induction h with
  | non => rfl
  | bl b => rfl
  | int h =>
    simp only [K01.gd, decide_eq_true_eq]
    refine Nat.lt_of_lt_of_le (show _ < 2 ^ 200 by omega) (Nat.pow_le_pow_right (by decide) (by decide))
  | str h a =>
    simp only [K01.gd, Bool.and_eq_true, decide_eq_true_eq]
    have : 2 ^ n ≤ 2 ^ 5 := Nat.pow_le_pow_right (by decide) hn
    exact ⟨by omega, asc_ok a⟩
  | lst h _ ih => simp only [K01.gd, Bool.and_eq_true, decide_eq_true_eq]; exact ⟨by omega, gdAll_of ih⟩
  | tup h _ ih => simp only [K01.gd, Bool.and_eq_true, decide_eq_true_eq]; exact ⟨by omega, gdAll_of ih⟩
end K01

set_option maxHeartbeats 4000000
namespace K01
open PySem PySem.Spec PyProof.Rows L2 Iv
variable {k : Nat}
theorem odd_sp : ∀ x ∈ oddA ++ oddB, Sp 0 x := by
  have n1 : ∀ {a : List D}, a.length ≤ 20 → (∀ x ∈ a, Sp 0 x) → Sp 0 (.tuple a) := fun h1 h2 => .tup h1 h2
  have i : ∀ {i : Int}, i.natAbs ≤ 1000000000000000000000000000000 → Sp 0 (.int i) := fun h => .int h
  have a : Sp 0 (.str "ann") := .str (by decide +kernel) (fun c hc => by
    have : c ∈ [97, 110, 110] := hc
    simp at this; omega)
  have e : Sp 0 (.str "") := .str (by decide +kernel) (fun c hc => by
    have : c ∈ ([] : List Nat) := hc
    simp at this)
  have t0 : Sp 0 (.tuple []) := .tup (by decide) (fun x hx => by cases hx)
  have ta : Sp 0 (.tuple [.str "ann", .int 1, .tuple []]) := n1 (by decide) (by
    intro x hx
    simp only [List.mem_cons, List.not_mem_nil, or_false] at hx
    rcases hx with rfl | rfl | rfl
    · exact a
    · exact i (by decide)
    · exact t0)
  have p2 : ∀ {x y : D}, Sp 0 x → Sp 0 y → Sp 0 (.tuple [x, y]) := fun hx hy => n1 (by simp) (by
    intro x hx
    simp only [List.mem_cons, List.not_mem_nil, or_false] at hx
    rcases hx with rfl | rfl <;> assumption)
  have p1 : ∀ {x : D}, Sp 0 x → Sp 0 (.tuple [x]) := fun hx => n1 (by simp) (by
    intro x hx
    rw [List.mem_singleton.mp hx]; assumption)
  intro x hx
  simp only [oddA, oddB, List.cons_append, List.nil_append, List.mem_cons, List.not_mem_nil, or_false] at hx
  rcases hx with rfl | rfl | rfl | rfl | rfl | rfl | rfl | rfl | rfl | rfl | rfl | rfl | rfl | rfl | rfl | rfl | rfl | rfl | rfl | rfl | rfl | rfl | rfl | rfl
  · exact .non
  · exact .bl _
  · exact .bl _
  · exact i (by decide)
  · exact i (by decide)
  · exact i (by decide)
  · exact i (by decide)
  · exact i (by decide)
  · exact e
  · exact a
  · exact t0
  · exact .lst (by decide) (fun x hx => by cases hx)
  · exact p2 (i (by decide)) (i (by decide))
  · exact p2 (i (by decide)) (i (by decide))
  · exact p2 (i (by decide)) (i (by decide))
  · exact p2 (i (by decide)) (i (by decide))
  · exact p2 (i (by decide)) (i (by decide))
  · exact p1 .non
  · exact ta
  · exact p1 ta
  · exact p1 (p2 (i (by decide)) (p1 (i (by decide))))
  · exact p2 a (i (by decide))
  · exact p2 a (.bl _)
  · refine n1 (by decide) ?_
    intro x hx
    simp only [List.mem_cons, List.not_mem_nil, or_false] at hx
    rcases hx with rfl | rfl | rfl
    · exact i (by decide)
    · exact i (by decide)
    · exact e
theorem Sp.le {d : D} : ∀ {n : Nat}, Sp 0 d → Sp n d
  | 0, h => h
  | n + 1, h => (Sp.le (n := n) h).up
theorem w_odd {s : Int × Int} {Q : R × BSt → Prop} (hs : bgOk s) (q : ∀ x s', Sp 0 x → x.depth ≤ 4 → bgOk s' → Q (.fz x, some s')) : wp (tbl.F whR 60 (k + 2) "_law_odd" [.bag] (some s)) Q := by
  rw [e__law_odd]
  unfold m__law_odd
  refine wp_run rfl ?_
  refine wp_seq (wp_eq (a := (.nx, [some .bag, some (.ow (.list oddA))], some s)) (by kernel_rfl) ?_)
  refine wp_seq (wp_eq (a := (.nx, [some .bag, some (.ow (.list (oddA ++ oddB)))], some s)) (by kernel_rfl) ?_)
  refine wp_seq ?_
  have ln : (oddA ++ oddB).length = 24 := rfl
  have sp := odd_sp
  have gdp := odd_gd
  generalize oddA ++ oddB = L at ln sp gdp
  try simp only [frzS, frzs, frz1, retF, retS, ifS, skipS, andE, orE, notE, ifE, valF, vE, vV, kE, kV', callF, ar_nil, ar_cons, dn_fz, dn_ow, dn_bag, dn_scr, d_fz, d_ow, b_of, isiF, isD, blF, cmpF, chainF, orElse, lenS, bltF1, notT, andT, orT, tstF, l_list, l_tuple, l_all, l_listL, l_listT, l_tupL, l_tupT, l_abs, c_lt, c_le, c_gt, c_ge, c_eqI, c_neI, c_inS, c_niS, i_list, i_tuple, i_str, x_list, x_tuple, plainF, ixF, ixS, asgF, unpF, unF, setAll, List.length_cons, List.length_nil, List.map_cons, List.map_nil, if_true, if_false, List.cons_append, List.nil_append, List.append_nil, List.getElem?_cons_zero, List.getElem?_cons_succ, List.replicate, List.set_cons_zero, List.set_cons_succ, Option.bind_some, Option.map_some, Option.bind_none, Option.map_none, Bool.not_true, Bool.not_false, Bool.false_eq_true, Bool.or_false, Bool.or_true, Nat.reduceAdd, Nat.reduceSub, Nat.zero_add, decide_true, decide_false, Bool.true_and, Bool.false_and, Bool.and_true, Bool.and_false, wp_some, wp_none, wp_bind, wp_map, wp_if, binF, slF, partF, negE, y_list, y_tuple, lstF, tupF, ds_nil, ds_fz, setF, setS, appS, par2F, par3F, wp_frz, dict0, dict1, Iv.keyOf, kD, flatD, upF, revF, bltF2, swS, isiF2, lenOk_of, Nat.reduceLeDiff, b_add, b_sub]
  have ln' : ((L.length : Nat) : Int) = 24 := by rw [ln]; rfl
  try simp only [ln']
  refine w_take hs (by omega) (by omega) fun i s1 i0 i1 b1 => ?_
  try simp only [frzS, frzs, frz1, retF, retS, ifS, skipS, andE, orE, notE, ifE, valF, vE, vV, kE, kV', callF, ar_nil, ar_cons, dn_fz, dn_ow, dn_bag, dn_scr, d_fz, d_ow, b_of, isiF, isD, blF, cmpF, chainF, orElse, lenS, bltF1, notT, andT, orT, tstF, l_list, l_tuple, l_all, l_listL, l_listT, l_tupL, l_tupT, l_abs, c_lt, c_le, c_gt, c_ge, c_eqI, c_neI, c_inS, c_niS, i_list, i_tuple, i_str, x_list, x_tuple, plainF, ixF, ixS, asgF, unpF, unF, setAll, List.length_cons, List.length_nil, List.map_cons, List.map_nil, if_true, if_false, List.cons_append, List.nil_append, List.append_nil, List.getElem?_cons_zero, List.getElem?_cons_succ, List.replicate, List.set_cons_zero, List.set_cons_succ, Option.bind_some, Option.map_some, Option.bind_none, Option.map_none, Bool.not_true, Bool.not_false, Bool.false_eq_true, Bool.or_false, Bool.or_true, Nat.reduceAdd, Nat.reduceSub, Nat.zero_add, decide_true, decide_false, Bool.true_and, Bool.false_and, Bool.and_true, Bool.and_false, wp_some, wp_none, wp_bind, wp_map, wp_if, binF, slF, partF, negE, y_list, y_tuple, lstF, tupF, ds_nil, ds_fz, setF, setS, appS, par2F, par3F, wp_frz, dict0, dict1, Iv.keyOf, kD, flatD, upF, revF, bltF2, swS, isiF2, lenOk_of, Nat.reduceLeDiff, b_add, b_sub]
  refine wp_at i0 (by omega) fun x hx => ?_
  try simp only [frzS, frzs, frz1, retF, retS, ifS, skipS, andE, orE, notE, ifE, valF, vE, vV, kE, kV', callF, ar_nil, ar_cons, dn_fz, dn_ow, dn_bag, dn_scr, d_fz, d_ow, b_of, isiF, isD, blF, cmpF, chainF, orElse, lenS, bltF1, notT, andT, orT, tstF, l_list, l_tuple, l_all, l_listL, l_listT, l_tupL, l_tupT, l_abs, c_lt, c_le, c_gt, c_ge, c_eqI, c_neI, c_inS, c_niS, i_list, i_tuple, i_str, x_list, x_tuple, plainF, ixF, ixS, asgF, unpF, unF, setAll, List.length_cons, List.length_nil, List.map_cons, List.map_nil, if_true, if_false, List.cons_append, List.nil_append, List.append_nil, List.getElem?_cons_zero, List.getElem?_cons_succ, List.replicate, List.set_cons_zero, List.set_cons_succ, Option.bind_some, Option.map_some, Option.bind_none, Option.map_none, Bool.not_true, Bool.not_false, Bool.false_eq_true, Bool.or_false, Bool.or_true, Nat.reduceAdd, Nat.reduceSub, Nat.zero_add, decide_true, decide_false, Bool.true_and, Bool.false_and, Bool.and_true, Bool.and_false, wp_some, wp_none, wp_bind, wp_map, wp_if, binF, slF, partF, negE, y_list, y_tuple, lstF, tupF, ds_nil, ds_fz, setF, setS, appS, par2F, par3F, wp_frz, dict0, dict1, Iv.keyOf, kD, flatD, upF, revF, bltF2, swS, isiF2, lenOk_of, Nat.reduceLeDiff, b_add, b_sub]
  exact q x s1 (sp x hx) (gdp x hx).2 b1
end K01

set_option maxHeartbeats 4000000
namespace K01
open PySem PySem.Spec PyProof.Rows L2 Iv
variable {k : Nat}
theorem b_addS {x y : Str} (h : x.length + y.length ≤ 16777216) : binD .Add (.str x) (.str y) = some (.fz (.str (x ++ y))) := by
  show (if lenOk _ then _ else none) = _
  rw [lenOk_of h]; rfl
theorem y_str {z : Str} (h : z.length ≤ 16777216) (lo hi : Option Int) : slD (.str z) lo hi = some (.fz (.str (cutS z lo hi))) := by
  show (if lenOk _ then _ else none) = _
  rw [lenOk_of h]; rfl
theorem mem_cut {xs : List D} {lo hi : Option Int} {x : D} (h : x ∈ cutL xs lo hi) : x ∈ xs := List.mem_of_mem_drop (List.mem_of_mem_take h)
theorem depth_of {xs : List D} {m : Nat} (h : ∀ x ∈ xs, x.depth ≤ m) : (PyData.tuple xs).depth ≤ m + 1 ∧ (PyData.list xs).depth ≤ m + 1 := by
  have := depAll_of h
  exact ⟨by show PyData.depthAll xs + 1 ≤ _; omega, by show PyData.depthAll xs + 1 ≤ _; omega⟩
theorem ix_n {n : Nat} {i : Int} (h0 : 0 ≤ i) (h1 : i < (n : Int)) : ixN n i = some i.toNat := by
  unfold ixN
  rw [if_pos h0, if_pos h1]
/-- what comes out of a spoilt thing -/
def OutOk (n m : Nat) (Q : R × BSt → Prop) : Prop := ∀ d s, Sp (n + 1) d → d.depth ≤ m → bgOk s → Q (.fz d, some s)
def rtQ (Q : R × BSt → Prop) : Out × Env' × BSt → Prop := fun p => match p.1 with | .rt r => Q (r, p.2.2) | .nx => Q (.fz .none, p.2.2) | _ => False
def spTail (F : FT) : SF := (seqS (frzS [] (ifS (andT (tstF (valF (isiF .str (vV 1)))) (cmpF .Gt (vV 2) (valF (kE (.int 1))))) (seqS (frzS [] (retF (ixF (valF (lstF (argsF [(binF .Add (vV 1) (valF (kE (.str "a")))), (slF (vV 1) (partF none) (partF (some (valF (negE (valF (kE (.int 1)))))))), (binF .Add (vV 1) (valF (kE (.str " ")))), (upF (vV 1)), (binF .Add (vV 1) (vV 1)), (binF .Add (valF (kE (.str "z"))) (vV 1)), (kE (.str ""))]))) (valF (binF .Sub (vV 2) (valF (kE (.int 2))))))))
    skipS) skipS))
    (seqS (frzS [] (ifS (andT (tstF (valF (isiF .int (vV 1)))) (cmpF .Gt (vV 2) (valF (kE (.int 1))))) (seqS (frzS [1] (retF (ixF (valF (lstF (argsF [(binF .Add (vV 1) (valF (kE (.int 1)))), (binF .Sub (vV 1) (valF (kE (.int 1)))), (negE (vV 1)), (binF .Add (vV 1) (valF (kE (.int 1000)))), (bltF1 .str (vV 1)), (binF .Add (vV 1) (valF (kE (.int 50)))), (tupF (argsF [(vE 1)]))]))) (valF (binF .Sub (vV 2) (valF (kE (.int 2))))))))
    skipS) skipS))
    (seqS (frzS [0] (retF (callF F "_law_odd" (argsF [(vE 0)]))))
    skipS)))
def spSeq (F : FT) : SF := (frzS [] (ifS (andT (tstF (valF (isiF2 .tuple .list (vV 1)))) (andT (cmpF .Gt (valF (orElse (lenS 1) (bltF1 .len (vV 1)))) (valF (kE (.int 0)))) (cmpF .Gt (vV 2) (valF (kE (.int 0)))))) (seqS (frzS [] (asgF 3 (bltF1 .list (vV 1))))
    (seqS (frzS [0] (asgF 4 (callF F "_law_take" (argsF [(vE 0), (orElse (lenS 3) (bltF1 .len (vV 3)))]))))
    (seqS (frzS [] (ifS (cmpF .Eq (vV 2) (valF (kE (.int 1)))) (seqS (frzS [4] (asgF 3 (binF .Add (valF (slF (vV 3) (partF none) (partF (some (vV 4))))) (valF (slF (vV 3) (partF (some (valF (binF .Add (vV 4) (valF (kE (.int 1))))))) (partF none))))))
    skipS) (seqS (frzS [] (ifS (cmpF .Eq (vV 2) (valF (kE (.int 2)))) (seqS (frzS [4] (asgF 3 (binF .Add (valF (slF (vV 3) (partF none) (partF (some (valF (binF .Add (vV 4) (valF (kE (.int 1))))))))) (valF (slF (vV 3) (partF (some (vV 4))) (partF none))))))
    skipS) (seqS (frzS [] (ifS (cmpF .Eq (vV 2) (valF (kE (.int 3)))) (seqS (frzS [0] (asgF 5 (callF F "_law_take" (argsF [(vE 0), (orElse (lenS 3) (bltF1 .len (vV 3)))]))))
    (seqS (frzS [] (swS 3 (tupF (argsF [(orElse (ixS 3 (vV 5)) (ixF (vV 3) (vV 5))), (orElse (ixS 3 (vV 4)) (ixF (vV 3) (vV 4)))])) (vV 4) (vV 5)))
    skipS)) (seqS (frzS [] (ifS (cmpF .Eq (vV 2) (valF (kE (.int 4)))) (seqS (frzS [3] (retF (ifE (tstF (valF (isiF .tuple (vV 1)))) (vE 3) (bltF1 .tuple (vV 3)))))
    skipS) (seqS (frzS [0] (setS 3 (callF F "_law_spoilt" (argsF [(vE 0), (orElse (ixS 3 (vV 4)) (ixF (vV 3) (vV 4)))])) (vV 4)))
    skipS)))
    skipS)))
    skipS)))
    skipS)))
    (seqS (frzS [3] (retF (ifE (tstF (valF (isiF .tuple (vV 1)))) (bltF1 .tuple (vV 3)) (vE 3))))
    skipS)))) skipS))
theorem spoilt_parts (wh : Wh) (F : FT) : m__law_spoilt wh F = seqS (frzS [0] (asgF 2 (callF F "_law_take" (argsF [(vE 0), (kE (.int 9))])))) (seqS (spSeq F) (spTail F)) := rfl
theorem seven {L : List D} {i : Int} {Q : D → Prop} (h0 : 2 ≤ i) (h1 : i < 9) (hl : L.length = 7) (q : ∀ x ∈ L, Q x) : wp (atI L (i - 2)) Q := wp_at (by omega) (by omega) q
theorem w_tail {n m : Nat} {d : D} {i : Int} {s : Int × Int} {Q : R × BSt → Prop} (hn : n ≤ 5) (hd : d.depth ≤ m) (hsp : Sp n d) (i0 : 0 ≤ i) (i1 : i < 9) (hs : bgOk s) (q : OutOk n (m + 4) Q) : wp (spTail (tbl.F whR 60 (k + 2)) [some .bag, some (.fz d), some (.fz (.int i)), none, none, none] (some s)) (rtQ Q) := by
  have hodd : ∀ env : Env', env = [some .bag, some (.fz d), some (.fz (.int i)), none, none, none] → wp (seqS (frzS [0] (retF (callF (tbl.F whR 60 (k + 2)) "_law_odd" (argsF [(vE 0)])))) skipS env (some s)) (rtQ Q) := by
    intro env e
    subst e
    refine wp_seq ?_
    try simp only [frzS, frzs, frz1, retF, retS, ifS, skipS, andE, orE, notE, ifE, valF, vE, vV, kE, kV', callF, ar_nil, ar_cons, dn_fz, dn_ow, dn_bag, dn_scr, d_fz, d_ow, b_of, isiF, isD, blF, cmpF, chainF, orElse, lenS, bltF1, notT, andT, orT, tstF, l_list, l_tuple, l_all, l_listL, l_listT, l_tupL, l_tupT, l_abs, c_lt, c_le, c_gt, c_ge, c_eqI, c_neI, c_inS, c_niS, i_list, i_tuple, i_str, x_list, x_tuple, plainF, ixF, ixS, asgF, unpF, unF, setAll, List.length_cons, List.length_nil, List.map_cons, List.map_nil, if_true, if_false, List.cons_append, List.nil_append, List.append_nil, List.getElem?_cons_zero, List.getElem?_cons_succ, List.replicate, List.set_cons_zero, List.set_cons_succ, Option.bind_some, Option.map_some, Option.bind_none, Option.map_none, Bool.not_true, Bool.not_false, Bool.false_eq_true, Bool.or_false, Bool.or_true, Nat.reduceAdd, Nat.reduceSub, Nat.zero_add, decide_true, decide_false, Bool.true_and, Bool.false_and, Bool.and_true, Bool.and_false, wp_some, wp_none, wp_bind, wp_map, wp_if, binF, slF, partF, negE, y_list, y_tuple, lstF, tupF, ds_nil, ds_fz, setF, setS, appS, par2F, par3F, wp_frz, dict0, dict1, Iv.keyOf, kD, flatD, upF, revF, bltF2, swS, isiF2, lenOk_of, Nat.reduceLeDiff, b_add, b_sub]
    refine w_odd hs fun x s1 hx hxd b1 => ?_
    exact q x s1 hx.le (by omega) b1
  have p5 : 2 ^ n ≤ 2 ^ 5 := Nat.pow_le_pow_right (by decide) hn
  have p1 : 1 ≤ 2 ^ n := Nat.one_le_two_pow
  have pn : 2 ^ (n + 1) = 2 * 2 ^ n := by rw [Nat.pow_succ]; omega
  unfold spTail
  refine wp_seq ?_
  cases hsp with
  | str hl ha =>
    rename_i z
    by_cases hi : 1 < i
    · have c1 : decide (i > 1) = true := decide_eq_true hi
      have l1 : (Str.ofString "a").length = 1 := rfl
      have a1 := b_addS (x := z) (y := "a") (by rw [l1]; omega)
      have a2 := y_str (z := z) (by omega) none (some (-1))
      have a3 := b_addS (x := z) (y := " ") (by show _ + 1 ≤ _; omega)
      have a4 : decide (z.length ≤ 5592405) = true := decide_eq_true (by omega)
      have a5 := b_addS (x := z) (y := z) (by omega)
      have a6 := b_addS (x := "z") (y := z) (by show 1 + _ ≤ _; omega)
      obtain ⟨u1, u2⟩ := asc_up ha
      have all : ∀ x ∈ [PyData.str (z ++ "a"), .str (cutS z none (some (-1))), .str (z ++ " "), .str (Txt.upper z), .str (z ++ z), .str ("z" ++ z), .str ""], Sp (n + 1) x ∧ x.depth ≤ 0 := by
        have c1 : ∀ c : Nat, c < 128 → asc ⟨#[c]⟩ := fun c hc d hd => by
          have : d = c := by simpa using hd
          omega
        intro x hx
        simp only [List.mem_cons, List.not_mem_nil, or_false] at hx
        rcases hx with rfl | rfl | rfl | rfl | rfl | rfl | rfl
        · exact ⟨.str (by rw [PySem.Str.length_append]; show _ + 1 ≤ _; omega) (asc_app ha (c1 97 (by omega))), Nat.le_refl _⟩
        · exact ⟨.str (by have := cutS_length z none (some (-1)); omega) (asc_cut ha _ _), Nat.le_refl _⟩
        · exact ⟨.str (by rw [PySem.Str.length_append]; show _ + 1 ≤ _; omega) (asc_app ha (c1 32 (by omega))), Nat.le_refl _⟩
        · exact ⟨.str (by omega) u1, Nat.le_refl _⟩
        · exact ⟨.str (by rw [PySem.Str.length_append]; omega) (asc_app ha ha), Nat.le_refl _⟩
        · exact ⟨.str (by rw [PySem.Str.length_append]; show 1 + _ ≤ _; omega) (asc_app (c1 122 (by omega)) ha), Nat.le_refl _⟩
        · exact ⟨.str (by show 0 ≤ _; omega) (fun c hc => by
            have : c ∈ ([] : List Nat) := hc
            simp at this), Nat.le_refl _⟩
      try simp only [frzS, frzs, frz1, retF, retS, ifS, skipS, andE, orE, notE, ifE, valF, vE, vV, kE, kV', callF, ar_nil, ar_cons, dn_fz, dn_ow, dn_bag, dn_scr, d_fz, d_ow, b_of, isiF, isD, blF, cmpF, chainF, orElse, lenS, bltF1, notT, andT, orT, tstF, l_list, l_tuple, l_all, l_listL, l_listT, l_tupL, l_tupT, l_abs, c_lt, c_le, c_gt, c_ge, c_eqI, c_neI, c_inS, c_niS, i_list, i_tuple, i_str, x_list, x_tuple, plainF, ixF, ixS, asgF, unpF, unF, setAll, List.length_cons, List.length_nil, List.map_cons, List.map_nil, if_true, if_false, List.cons_append, List.nil_append, List.append_nil, List.getElem?_cons_zero, List.getElem?_cons_succ, List.replicate, List.set_cons_zero, List.set_cons_succ, Option.bind_some, Option.map_some, Option.bind_none, Option.map_none, Bool.not_true, Bool.not_false, Bool.false_eq_true, Bool.or_false, Bool.or_true, Nat.reduceAdd, Nat.reduceSub, Nat.zero_add, decide_true, decide_false, Bool.true_and, Bool.false_and, Bool.and_true, Bool.and_false, wp_some, wp_none, wp_bind, wp_map, wp_if, binF, slF, partF, negE, y_list, y_tuple, lstF, tupF, ds_nil, ds_fz, setF, setS, appS, par2F, par3F, wp_frz, dict0, dict1, Iv.keyOf, kD, flatD, upF, revF, bltF2, swS, isiF2, lenOk_of, Nat.reduceLeDiff, b_add, b_sub, c1, a1, a2, a3, a4, a5, a6]
      refine wp_seq ?_
      try simp only [frzS, frzs, frz1, retF, retS, ifS, skipS, andE, orE, notE, ifE, valF, vE, vV, kE, kV', callF, ar_nil, ar_cons, dn_fz, dn_ow, dn_bag, dn_scr, d_fz, d_ow, b_of, isiF, isD, blF, cmpF, chainF, orElse, lenS, bltF1, notT, andT, orT, tstF, l_list, l_tuple, l_all, l_listL, l_listT, l_tupL, l_tupT, l_abs, c_lt, c_le, c_gt, c_ge, c_eqI, c_neI, c_inS, c_niS, i_list, i_tuple, i_str, x_list, x_tuple, plainF, ixF, ixS, asgF, unpF, unF, setAll, List.length_cons, List.length_nil, List.map_cons, List.map_nil, if_true, if_false, List.cons_append, List.nil_append, List.append_nil, List.getElem?_cons_zero, List.getElem?_cons_succ, List.replicate, List.set_cons_zero, List.set_cons_succ, Option.bind_some, Option.map_some, Option.bind_none, Option.map_none, Bool.not_true, Bool.not_false, Bool.false_eq_true, Bool.or_false, Bool.or_true, Nat.reduceAdd, Nat.reduceSub, Nat.zero_add, decide_true, decide_false, Bool.true_and, Bool.false_and, Bool.and_true, Bool.and_false, wp_some, wp_none, wp_bind, wp_map, wp_if, binF, slF, partF, negE, y_list, y_tuple, lstF, tupF, ds_nil, ds_fz, setF, setS, appS, par2F, par3F, wp_frz, dict0, dict1, Iv.keyOf, kD, flatD, upF, revF, bltF2, swS, isiF2, lenOk_of, Nat.reduceLeDiff, b_add, b_sub, c1, a1, a2, a3, a4, a5, a6]
      refine seven (by omega) i1 rfl fun x hx => ?_
      have := all x hx
      exact q x s this.1 (by omega) hs
    · have c1 : decide (i > 1) = false := decide_eq_false hi
      try simp only [frzS, frzs, frz1, retF, retS, ifS, skipS, andE, orE, notE, ifE, valF, vE, vV, kE, kV', callF, ar_nil, ar_cons, dn_fz, dn_ow, dn_bag, dn_scr, d_fz, d_ow, b_of, isiF, isD, blF, cmpF, chainF, orElse, lenS, bltF1, notT, andT, orT, tstF, l_list, l_tuple, l_all, l_listL, l_listT, l_tupL, l_tupT, l_abs, c_lt, c_le, c_gt, c_ge, c_eqI, c_neI, c_inS, c_niS, i_list, i_tuple, i_str, x_list, x_tuple, plainF, ixF, ixS, asgF, unpF, unF, setAll, List.length_cons, List.length_nil, List.map_cons, List.map_nil, if_true, if_false, List.cons_append, List.nil_append, List.append_nil, List.getElem?_cons_zero, List.getElem?_cons_succ, List.replicate, List.set_cons_zero, List.set_cons_succ, Option.bind_some, Option.map_some, Option.bind_none, Option.map_none, Bool.not_true, Bool.not_false, Bool.false_eq_true, Bool.or_false, Bool.or_true, Nat.reduceAdd, Nat.reduceSub, Nat.zero_add, decide_true, decide_false, Bool.true_and, Bool.false_and, Bool.and_true, Bool.and_false, wp_some, wp_none, wp_bind, wp_map, wp_if, binF, slF, partF, negE, y_list, y_tuple, lstF, tupF, ds_nil, ds_fz, setF, setS, appS, par2F, par3F, wp_frz, dict0, dict1, Iv.keyOf, kD, flatD, upF, revF, bltF2, swS, isiF2, lenOk_of, Nat.reduceLeDiff, b_add, b_sub, c1]
      refine wp_seq ?_
      try simp only [frzS, frzs, frz1, retF, retS, ifS, skipS, andE, orE, notE, ifE, valF, vE, vV, kE, kV', callF, ar_nil, ar_cons, dn_fz, dn_ow, dn_bag, dn_scr, d_fz, d_ow, b_of, isiF, isD, blF, cmpF, chainF, orElse, lenS, bltF1, notT, andT, orT, tstF, l_list, l_tuple, l_all, l_listL, l_listT, l_tupL, l_tupT, l_abs, c_lt, c_le, c_gt, c_ge, c_eqI, c_neI, c_inS, c_niS, i_list, i_tuple, i_str, x_list, x_tuple, plainF, ixF, ixS, asgF, unpF, unF, setAll, List.length_cons, List.length_nil, List.map_cons, List.map_nil, if_true, if_false, List.cons_append, List.nil_append, List.append_nil, List.getElem?_cons_zero, List.getElem?_cons_succ, List.replicate, List.set_cons_zero, List.set_cons_succ, Option.bind_some, Option.map_some, Option.bind_none, Option.map_none, Bool.not_true, Bool.not_false, Bool.false_eq_true, Bool.or_false, Bool.or_true, Nat.reduceAdd, Nat.reduceSub, Nat.zero_add, decide_true, decide_false, Bool.true_and, Bool.false_and, Bool.and_true, Bool.and_false, wp_some, wp_none, wp_bind, wp_map, wp_if, binF, slF, partF, negE, y_list, y_tuple, lstF, tupF, ds_nil, ds_fz, setF, setS, appS, par2F, par3F, wp_frz, dict0, dict1, Iv.keyOf, kD, flatD, upF, revF, bltF2, swS, isiF2, lenOk_of, Nat.reduceLeDiff, b_add, b_sub, c1]
      exact hodd _ rfl
  | int hl =>
    rename_i z
    try simp only [frzS, frzs, frz1, retF, retS, ifS, skipS, andE, orE, notE, ifE, valF, vE, vV, kE, kV', callF, ar_nil, ar_cons, dn_fz, dn_ow, dn_bag, dn_scr, d_fz, d_ow, b_of, isiF, isD, blF, cmpF, chainF, orElse, lenS, bltF1, notT, andT, orT, tstF, l_list, l_tuple, l_all, l_listL, l_listT, l_tupL, l_tupT, l_abs, c_lt, c_le, c_gt, c_ge, c_eqI, c_neI, c_inS, c_niS, i_list, i_tuple, i_str, x_list, x_tuple, plainF, ixF, ixS, asgF, unpF, unF, setAll, List.length_cons, List.length_nil, List.map_cons, List.map_nil, if_true, if_false, List.cons_append, List.nil_append, List.append_nil, List.getElem?_cons_zero, List.getElem?_cons_succ, List.replicate, List.set_cons_zero, List.set_cons_succ, Option.bind_some, Option.map_some, Option.bind_none, Option.map_none, Bool.not_true, Bool.not_false, Bool.false_eq_true, Bool.or_false, Bool.or_true, Nat.reduceAdd, Nat.reduceSub, Nat.zero_add, decide_true, decide_false, Bool.true_and, Bool.false_and, Bool.and_true, Bool.and_false, wp_some, wp_none, wp_bind, wp_map, wp_if, binF, slF, partF, negE, y_list, y_tuple, lstF, tupF, ds_nil, ds_fz, setF, setS, appS, par2F, par3F, wp_frz, dict0, dict1, Iv.keyOf, kD, flatD, upF, revF, bltF2, swS, isiF2, lenOk_of, Nat.reduceLeDiff, b_add, b_sub]
    refine wp_seq ?_
    by_cases hi : 1 < i
    · have c1 : decide (i > 1) = true := decide_eq_true hi
      have a1 : blD1 .str (.int z) = some (.fz (.str (Str.ofString (toString z)))) := by
        show (if decide (z.natAbs.log2 < 1920) then _ else none) = _
        rw [if_pos]
        refine decide_eq_true ?_
        by_cases e : z.natAbs = 0
        · rw [e]; decide
        · exact (Nat.log2_lt e).mpr (Nat.lt_of_lt_of_le (show _ < 2 ^ 200 by omega) (Nat.pow_le_pow_right (by decide) (by decide)))
      have l1 : (Str.ofString (toString z)).length ≤ 33 := by
        have := PySem.int_text_length_le10 (a := z) (k := 32) (by omega) (by omega)
        rw [PySem.ofString_length]; exact this
      have all : ∀ x ∈ [PyData.int (z + 1), .int (z - 1), .int (-z), .int (z + 1000), .str (Str.ofString (toString z)), .int (z + 50), .tuple [.int z]], Sp (n + 1) x ∧ x.depth ≤ 1 := by
        intro x hx
        simp only [List.mem_cons, List.not_mem_nil, or_false] at hx
        rcases hx with rfl | rfl | rfl | rfl | rfl | rfl | rfl
        · exact ⟨.int (by omega), Nat.zero_le _⟩
        · exact ⟨.int (by omega), Nat.zero_le _⟩
        · exact ⟨.int (by omega), Nat.zero_le _⟩
        · exact ⟨.int (by omega), Nat.zero_le _⟩
        · exact ⟨.str (by omega) (asc_int z), Nat.zero_le _⟩
        · exact ⟨.int (by omega), Nat.zero_le _⟩
        · exact ⟨.tup (by simp; omega) (fun y hy => by rw [List.mem_singleton.mp hy]; exact .int (by omega)), Nat.le_refl _⟩
      try simp only [frzS, frzs, frz1, retF, retS, ifS, skipS, andE, orE, notE, ifE, valF, vE, vV, kE, kV', callF, ar_nil, ar_cons, dn_fz, dn_ow, dn_bag, dn_scr, d_fz, d_ow, b_of, isiF, isD, blF, cmpF, chainF, orElse, lenS, bltF1, notT, andT, orT, tstF, l_list, l_tuple, l_all, l_listL, l_listT, l_tupL, l_tupT, l_abs, c_lt, c_le, c_gt, c_ge, c_eqI, c_neI, c_inS, c_niS, i_list, i_tuple, i_str, x_list, x_tuple, plainF, ixF, ixS, asgF, unpF, unF, setAll, List.length_cons, List.length_nil, List.map_cons, List.map_nil, if_true, if_false, List.cons_append, List.nil_append, List.append_nil, List.getElem?_cons_zero, List.getElem?_cons_succ, List.replicate, List.set_cons_zero, List.set_cons_succ, Option.bind_some, Option.map_some, Option.bind_none, Option.map_none, Bool.not_true, Bool.not_false, Bool.false_eq_true, Bool.or_false, Bool.or_true, Nat.reduceAdd, Nat.reduceSub, Nat.zero_add, decide_true, decide_false, Bool.true_and, Bool.false_and, Bool.and_true, Bool.and_false, wp_some, wp_none, wp_bind, wp_map, wp_if, binF, slF, partF, negE, y_list, y_tuple, lstF, tupF, ds_nil, ds_fz, setF, setS, appS, par2F, par3F, wp_frz, dict0, dict1, Iv.keyOf, kD, flatD, upF, revF, bltF2, swS, isiF2, lenOk_of, Nat.reduceLeDiff, b_add, b_sub, c1]
      refine wp_seq ?_
      try simp only [frzS, frzs, frz1, retF, retS, ifS, skipS, andE, orE, notE, ifE, valF, vE, vV, kE, kV', callF, ar_nil, ar_cons, dn_fz, dn_ow, dn_bag, dn_scr, d_fz, d_ow, b_of, isiF, isD, blF, cmpF, chainF, orElse, lenS, bltF1, notT, andT, orT, tstF, l_list, l_tuple, l_all, l_listL, l_listT, l_tupL, l_tupT, l_abs, c_lt, c_le, c_gt, c_ge, c_eqI, c_neI, c_inS, c_niS, i_list, i_tuple, i_str, x_list, x_tuple, plainF, ixF, ixS, asgF, unpF, unF, setAll, List.length_cons, List.length_nil, List.map_cons, List.map_nil, if_true, if_false, List.cons_append, List.nil_append, List.append_nil, List.getElem?_cons_zero, List.getElem?_cons_succ, List.replicate, List.set_cons_zero, List.set_cons_succ, Option.bind_some, Option.map_some, Option.bind_none, Option.map_none, Bool.not_true, Bool.not_false, Bool.false_eq_true, Bool.or_false, Bool.or_true, Nat.reduceAdd, Nat.reduceSub, Nat.zero_add, decide_true, decide_false, Bool.true_and, Bool.false_and, Bool.and_true, Bool.and_false, wp_some, wp_none, wp_bind, wp_map, wp_if, binF, slF, partF, negE, y_list, y_tuple, lstF, tupF, ds_nil, ds_fz, setF, setS, appS, par2F, par3F, wp_frz, dict0, dict1, Iv.keyOf, kD, flatD, upF, revF, bltF2, swS, isiF2, lenOk_of, Nat.reduceLeDiff, b_add, b_sub, a1]
      refine seven (by omega) i1 rfl fun x hx => ?_
      have := all x hx
      exact q x s this.1 (by omega) hs
    · have c1 : decide (i > 1) = false := decide_eq_false hi
      try simp only [frzS, frzs, frz1, retF, retS, ifS, skipS, andE, orE, notE, ifE, valF, vE, vV, kE, kV', callF, ar_nil, ar_cons, dn_fz, dn_ow, dn_bag, dn_scr, d_fz, d_ow, b_of, isiF, isD, blF, cmpF, chainF, orElse, lenS, bltF1, notT, andT, orT, tstF, l_list, l_tuple, l_all, l_listL, l_listT, l_tupL, l_tupT, l_abs, c_lt, c_le, c_gt, c_ge, c_eqI, c_neI, c_inS, c_niS, i_list, i_tuple, i_str, x_list, x_tuple, plainF, ixF, ixS, asgF, unpF, unF, setAll, List.length_cons, List.length_nil, List.map_cons, List.map_nil, if_true, if_false, List.cons_append, List.nil_append, List.append_nil, List.getElem?_cons_zero, List.getElem?_cons_succ, List.replicate, List.set_cons_zero, List.set_cons_succ, Option.bind_some, Option.map_some, Option.bind_none, Option.map_none, Bool.not_true, Bool.not_false, Bool.false_eq_true, Bool.or_false, Bool.or_true, Nat.reduceAdd, Nat.reduceSub, Nat.zero_add, decide_true, decide_false, Bool.true_and, Bool.false_and, Bool.and_true, Bool.and_false, wp_some, wp_none, wp_bind, wp_map, wp_if, binF, slF, partF, negE, y_list, y_tuple, lstF, tupF, ds_nil, ds_fz, setF, setS, appS, par2F, par3F, wp_frz, dict0, dict1, Iv.keyOf, kD, flatD, upF, revF, bltF2, swS, isiF2, lenOk_of, Nat.reduceLeDiff, b_add, b_sub, c1]
      exact hodd _ rfl
  | bl b =>
    try simp only [frzS, frzs, frz1, retF, retS, ifS, skipS, andE, orE, notE, ifE, valF, vE, vV, kE, kV', callF, ar_nil, ar_cons, dn_fz, dn_ow, dn_bag, dn_scr, d_fz, d_ow, b_of, isiF, isD, blF, cmpF, chainF, orElse, lenS, bltF1, notT, andT, orT, tstF, l_list, l_tuple, l_all, l_listL, l_listT, l_tupL, l_tupT, l_abs, c_lt, c_le, c_gt, c_ge, c_eqI, c_neI, c_inS, c_niS, i_list, i_tuple, i_str, x_list, x_tuple, plainF, ixF, ixS, asgF, unpF, unF, setAll, List.length_cons, List.length_nil, List.map_cons, List.map_nil, if_true, if_false, List.cons_append, List.nil_append, List.append_nil, List.getElem?_cons_zero, List.getElem?_cons_succ, List.replicate, List.set_cons_zero, List.set_cons_succ, Option.bind_some, Option.map_some, Option.bind_none, Option.map_none, Bool.not_true, Bool.not_false, Bool.false_eq_true, Bool.or_false, Bool.or_true, Nat.reduceAdd, Nat.reduceSub, Nat.zero_add, decide_true, decide_false, Bool.true_and, Bool.false_and, Bool.and_true, Bool.and_false, wp_some, wp_none, wp_bind, wp_map, wp_if, binF, slF, partF, negE, y_list, y_tuple, lstF, tupF, ds_nil, ds_fz, setF, setS, appS, par2F, par3F, wp_frz, dict0, dict1, Iv.keyOf, kD, flatD, upF, revF, bltF2, swS, isiF2, lenOk_of, Nat.reduceLeDiff, b_add, b_sub]
    refine wp_seq ?_
    by_cases hi : 1 < i
    · have c1 : decide (i > 1) = true := decide_eq_true hi
      have hb : (b2i b).natAbs ≤ 1 := by cases b <;> decide
      have a1 : blD1 .str (.bool b) = some (.fz (.str (if b then "True" else "False"))) := rfl
      have a2 : ∀ j : Int, binD .Add (.bool b) (.int j) = some (.fz (.int (b2i b + j))) := fun _ => rfl
      have a3 : ∀ j : Int, binD .Sub (.bool b) (.int j) = some (.fz (.int (b2i b - j))) := fun _ => rfl
      have l1 : Sp (n + 1) (.str (if b then "True" else "False")) := by
        have h0 : Sp 0 (.str (if b then "True" else "False")) := by
          cases b
          · exact .str (by decide +kernel) (fun c hc => by
              have : c ∈ [70, 97, 108, 115, 101] := hc
              simp at this; omega)
          · exact .str (by decide +kernel) (fun c hc => by
              have : c ∈ [84, 114, 117, 101] := hc
              simp at this; omega)
        exact h0.le
      generalize (if b then ("True" : Str) else "False") = tx at a1 l1
      have all : ∀ x ∈ [PyData.int (b2i b + 1), .int (b2i b - 1), .int (-(b2i b)), .int (b2i b + 1000), .str tx, .int (b2i b + 50), .tuple [.bool b]], Sp (n + 1) x ∧ x.depth ≤ 1 := by
        intro x hx
        simp only [List.mem_cons, List.not_mem_nil, or_false] at hx
        rcases hx with rfl | rfl | rfl | rfl | rfl | rfl | rfl
        · exact ⟨.int (by omega), Nat.zero_le _⟩
        · exact ⟨.int (by omega), Nat.zero_le _⟩
        · exact ⟨.int (by omega), Nat.zero_le _⟩
        · exact ⟨.int (by omega), Nat.zero_le _⟩
        · exact ⟨l1, Nat.zero_le _⟩
        · exact ⟨.int (by omega), Nat.zero_le _⟩
        · exact ⟨.tup (by simp; omega) (fun y hy => by rw [List.mem_singleton.mp hy]; exact .bl b), Nat.le_refl _⟩
      try simp only [frzS, frzs, frz1, retF, retS, ifS, skipS, andE, orE, notE, ifE, valF, vE, vV, kE, kV', callF, ar_nil, ar_cons, dn_fz, dn_ow, dn_bag, dn_scr, d_fz, d_ow, b_of, isiF, isD, blF, cmpF, chainF, orElse, lenS, bltF1, notT, andT, orT, tstF, l_list, l_tuple, l_all, l_listL, l_listT, l_tupL, l_tupT, l_abs, c_lt, c_le, c_gt, c_ge, c_eqI, c_neI, c_inS, c_niS, i_list, i_tuple, i_str, x_list, x_tuple, plainF, ixF, ixS, asgF, unpF, unF, setAll, List.length_cons, List.length_nil, List.map_cons, List.map_nil, if_true, if_false, List.cons_append, List.nil_append, List.append_nil, List.getElem?_cons_zero, List.getElem?_cons_succ, List.replicate, List.set_cons_zero, List.set_cons_succ, Option.bind_some, Option.map_some, Option.bind_none, Option.map_none, Bool.not_true, Bool.not_false, Bool.false_eq_true, Bool.or_false, Bool.or_true, Nat.reduceAdd, Nat.reduceSub, Nat.zero_add, decide_true, decide_false, Bool.true_and, Bool.false_and, Bool.and_true, Bool.and_false, wp_some, wp_none, wp_bind, wp_map, wp_if, binF, slF, partF, negE, y_list, y_tuple, lstF, tupF, ds_nil, ds_fz, setF, setS, appS, par2F, par3F, wp_frz, dict0, dict1, Iv.keyOf, kD, flatD, upF, revF, bltF2, swS, isiF2, lenOk_of, Nat.reduceLeDiff, b_add, b_sub, c1]
      refine wp_seq ?_
      try simp only [frzS, frzs, frz1, retF, retS, ifS, skipS, andE, orE, notE, ifE, valF, vE, vV, kE, kV', callF, ar_nil, ar_cons, dn_fz, dn_ow, dn_bag, dn_scr, d_fz, d_ow, b_of, isiF, isD, blF, cmpF, chainF, orElse, lenS, bltF1, notT, andT, orT, tstF, l_list, l_tuple, l_all, l_listL, l_listT, l_tupL, l_tupT, l_abs, c_lt, c_le, c_gt, c_ge, c_eqI, c_neI, c_inS, c_niS, i_list, i_tuple, i_str, x_list, x_tuple, plainF, ixF, ixS, asgF, unpF, unF, setAll, List.length_cons, List.length_nil, List.map_cons, List.map_nil, if_true, if_false, List.cons_append, List.nil_append, List.append_nil, List.getElem?_cons_zero, List.getElem?_cons_succ, List.replicate, List.set_cons_zero, List.set_cons_succ, Option.bind_some, Option.map_some, Option.bind_none, Option.map_none, Bool.not_true, Bool.not_false, Bool.false_eq_true, Bool.or_false, Bool.or_true, Nat.reduceAdd, Nat.reduceSub, Nat.zero_add, decide_true, decide_false, Bool.true_and, Bool.false_and, Bool.and_true, Bool.and_false, wp_some, wp_none, wp_bind, wp_map, wp_if, binF, slF, partF, negE, y_list, y_tuple, lstF, tupF, ds_nil, ds_fz, setF, setS, appS, par2F, par3F, wp_frz, dict0, dict1, Iv.keyOf, kD, flatD, upF, revF, bltF2, swS, isiF2, lenOk_of, Nat.reduceLeDiff, b_add, b_sub, a1, a2, a3]
      refine seven (by omega) i1 rfl fun x hx => ?_
      have := all x hx
      exact q x s this.1 (by omega) hs
    · have c1 : decide (i > 1) = false := decide_eq_false hi
      try simp only [frzS, frzs, frz1, retF, retS, ifS, skipS, andE, orE, notE, ifE, valF, vE, vV, kE, kV', callF, ar_nil, ar_cons, dn_fz, dn_ow, dn_bag, dn_scr, d_fz, d_ow, b_of, isiF, isD, blF, cmpF, chainF, orElse, lenS, bltF1, notT, andT, orT, tstF, l_list, l_tuple, l_all, l_listL, l_listT, l_tupL, l_tupT, l_abs, c_lt, c_le, c_gt, c_ge, c_eqI, c_neI, c_inS, c_niS, i_list, i_tuple, i_str, x_list, x_tuple, plainF, ixF, ixS, asgF, unpF, unF, setAll, List.length_cons, List.length_nil, List.map_cons, List.map_nil, if_true, if_false, List.cons_append, List.nil_append, List.append_nil, List.getElem?_cons_zero, List.getElem?_cons_succ, List.replicate, List.set_cons_zero, List.set_cons_succ, Option.bind_some, Option.map_some, Option.bind_none, Option.map_none, Bool.not_true, Bool.not_false, Bool.false_eq_true, Bool.or_false, Bool.or_true, Nat.reduceAdd, Nat.reduceSub, Nat.zero_add, decide_true, decide_false, Bool.true_and, Bool.false_and, Bool.and_true, Bool.and_false, wp_some, wp_none, wp_bind, wp_map, wp_if, binF, slF, partF, negE, y_list, y_tuple, lstF, tupF, ds_nil, ds_fz, setF, setS, appS, par2F, par3F, wp_frz, dict0, dict1, Iv.keyOf, kD, flatD, upF, revF, bltF2, swS, isiF2, lenOk_of, Nat.reduceLeDiff, b_add, b_sub, c1]
      exact hodd _ rfl
  | _ =>
    try simp only [frzS, frzs, frz1, retF, retS, ifS, skipS, andE, orE, notE, ifE, valF, vE, vV, kE, kV', callF, ar_nil, ar_cons, dn_fz, dn_ow, dn_bag, dn_scr, d_fz, d_ow, b_of, isiF, isD, blF, cmpF, chainF, orElse, lenS, bltF1, notT, andT, orT, tstF, l_list, l_tuple, l_all, l_listL, l_listT, l_tupL, l_tupT, l_abs, c_lt, c_le, c_gt, c_ge, c_eqI, c_neI, c_inS, c_niS, i_list, i_tuple, i_str, x_list, x_tuple, plainF, ixF, ixS, asgF, unpF, unF, setAll, List.length_cons, List.length_nil, List.map_cons, List.map_nil, if_true, if_false, List.cons_append, List.nil_append, List.append_nil, List.getElem?_cons_zero, List.getElem?_cons_succ, List.replicate, List.set_cons_zero, List.set_cons_succ, Option.bind_some, Option.map_some, Option.bind_none, Option.map_none, Bool.not_true, Bool.not_false, Bool.false_eq_true, Bool.or_false, Bool.or_true, Nat.reduceAdd, Nat.reduceSub, Nat.zero_add, decide_true, decide_false, Bool.true_and, Bool.false_and, Bool.and_true, Bool.and_false, wp_some, wp_none, wp_bind, wp_map, wp_if, binF, slF, partF, negE, y_list, y_tuple, lstF, tupF, ds_nil, ds_fz, setF, setS, appS, par2F, par3F, wp_frz, dict0, dict1, Iv.keyOf, kD, flatD, upF, revF, bltF2, swS, isiF2, lenOk_of, Nat.reduceLeDiff, b_add, b_sub]
    refine wp_seq ?_
    try simp only [frzS, frzs, frz1, retF, retS, ifS, skipS, andE, orE, notE, ifE, valF, vE, vV, kE, kV', callF, ar_nil, ar_cons, dn_fz, dn_ow, dn_bag, dn_scr, d_fz, d_ow, b_of, isiF, isD, blF, cmpF, chainF, orElse, lenS, bltF1, notT, andT, orT, tstF, l_list, l_tuple, l_all, l_listL, l_listT, l_tupL, l_tupT, l_abs, c_lt, c_le, c_gt, c_ge, c_eqI, c_neI, c_inS, c_niS, i_list, i_tuple, i_str, x_list, x_tuple, plainF, ixF, ixS, asgF, unpF, unF, setAll, List.length_cons, List.length_nil, List.map_cons, List.map_nil, if_true, if_false, List.cons_append, List.nil_append, List.append_nil, List.getElem?_cons_zero, List.getElem?_cons_succ, List.replicate, List.set_cons_zero, List.set_cons_succ, Option.bind_some, Option.map_some, Option.bind_none, Option.map_none, Bool.not_true, Bool.not_false, Bool.false_eq_true, Bool.or_false, Bool.or_true, Nat.reduceAdd, Nat.reduceSub, Nat.zero_add, decide_true, decide_false, Bool.true_and, Bool.false_and, Bool.and_true, Bool.and_false, wp_some, wp_none, wp_bind, wp_map, wp_if, binF, slF, partF, negE, y_list, y_tuple, lstF, tupF, ds_nil, ds_fz, setF, setS, appS, par2F, par3F, wp_frz, dict0, dict1, Iv.keyOf, kD, flatD, upF, revF, bltF2, swS, isiF2, lenOk_of, Nat.reduceLeDiff, b_add, b_sub]
    exact hodd _ rfl
end K01

set_option maxHeartbeats 4000000
namespace K01
open PySem PySem.Spec PyProof.Rows L2 Iv
variable {k : Nat}
theorem len_cut_le (xs : List D) (lo hi : Option Int) : (cutL xs lo hi).length ≤ xs.length := by
  unfold cutL
  rw [List.length_take, List.length_drop]; omega
theorem ix_nat {n j : Nat} (h : j < n) : ixN n (j : Int) = some j := by
  rw [ix_n (by omega) (by omega)]
  rfl
def seqD (tb : Bool) (xs : List D) : D := if tb then .tuple xs else .list xs
theorem set_mem' {xs : List D} {j : Nat} {x y : D} (h : y ∈ xs.set j x) : y ∈ xs ∨ y = x := List.mem_or_eq_of_mem_set h
theorem w_seq {n m : Nat} (tb : Bool) (xs : List D) (i : Int) (s : Int × Int) (Q : R × BSt → Prop) (hn : n ≤ 5) (hx0 : xs ≠ []) (hxl : xs.length ≤ 20 + n) (hxd : ∀ x ∈ xs, x.depth ≤ m) (hxs : ∀ x ∈ xs, Sp n x) (i0 : 0 < i) (i1 : i < 9) (hs : bgOk s)
    (ih : ∀ (d : D) (s : Int × Int) (Q : R × BSt → Prop), d.depth ≤ m → Sp n d → bgOk s → OutOk n (m + 4) Q → wp (tbl.F whR 60 (k + 2) "_law_spoilt" [.bag, .fz d] (some s)) Q)
    (q : OutOk n (m + 1 + 4) Q) : wp (spSeq (tbl.F whR 60 (k + 2)) [some .bag, some (.fz (seqD tb xs)), some (.fz (.int i)), none, none, none] (some s)) fun p => match p.1 with | .nx => False | o => rtQ Q (o, p.2) := by
  have hlen : 0 < xs.length := List.length_pos_iff.mpr hx0
  have e1 : (isD (seqD tb xs) .tuple || isD (seqD tb xs) .list) = true := by cases tb <;> rfl
  have e2 : blD1 .len (seqD tb xs) = some (.fz (.int xs.length)) := by cases tb <;> rfl
  have e3 : blD1 .list (seqD tb xs) = some (.ow (.list xs)) := by cases tb <;> rfl
  have e4 : isD (seqD tb xs) .tuple = tb := by cases tb <;> rfl
  generalize seqD tb xs = d at e1 e2 e3 e4
  have c1 : decide ((xs.length : Int) > 0) = true := decide_eq_true (by omega)
  have c2 : decide (i > 0) = true := decide_eq_true i0
  -- what is told in the end
  have fin : ∀ (rows : List D) (z4 z5 : Option R) (s : Int × Int), bgOk s → rows.length ≤ 20 + (n + 1) → (∀ x ∈ rows, Sp (n + 1) x) → (∀ x ∈ rows, x.depth ≤ m + 4) →
      wp (seqS (frzS [3] (retF (ifE (tstF (valF (isiF .tuple (vV 1)))) (bltF1 .tuple (vV 3)) (vE 3)))) skipS [some .bag, some (.fz d), some (.fz (.int i)), some (.ow (.list rows)), z4, z5] (some s)) fun p => match p.1 with | .nx => False | o => rtQ Q (o, p.2) := by
    intro rows z4 z5 s b hl hsp hdp
    have dp := depth_of hdp
    refine wp_seq ?_
    cases tb with
    | true =>
      try simp only [frzS, frzs, frz1, retF, retS, ifS, skipS, andE, orE, notE, ifE, valF, vE, vV, kE, kV', callF, ar_nil, ar_cons, dn_fz, dn_ow, dn_bag, dn_scr, d_fz, d_ow, b_of, isiF, blF, cmpF, chainF, orElse, lenS, bltF1, notT, andT, orT, tstF, l_list, l_tuple, l_all, l_listL, l_listT, l_tupL, l_tupT, l_abs, c_lt, c_le, c_gt, c_ge, c_eqI, c_neI, c_inS, c_niS, i_list, i_tuple, i_str, x_list, x_tuple, plainF, ixF, ixS, asgF, unpF, unF, setAll, List.length_cons, List.length_nil, List.map_cons, List.map_nil, if_true, if_false, List.cons_append, List.nil_append, List.append_nil, List.getElem?_cons_zero, List.getElem?_cons_succ, List.replicate, List.set_cons_zero, List.set_cons_succ, Option.bind_some, Option.map_some, Option.bind_none, Option.map_none, Bool.not_true, Bool.not_false, Bool.false_eq_true, Bool.or_false, Bool.or_true, Nat.reduceAdd, Nat.reduceSub, Nat.zero_add, decide_true, decide_false, Bool.true_and, Bool.false_and, Bool.and_true, Bool.and_false, wp_some, wp_none, wp_bind, wp_map, wp_if, binF, slF, partF, negE, y_list, y_tuple, lstF, tupF, ds_nil, ds_fz, setF, setS, appS, par2F, par3F, wp_frz, dict0, dict1, Iv.keyOf, kD, flatD, upF, revF, bltF2, swS, isiF2, lenOk_of, Nat.reduceLeDiff, b_add, b_sub, Int.reduceBEq, beq_self_eq_true, Int.reduceAdd, Int.reduceSub, e4]
      exact q _ s (.tup hl hsp) (by have := dp.1; omega) b
    | false =>
      try simp only [frzS, frzs, frz1, retF, retS, ifS, skipS, andE, orE, notE, ifE, valF, vE, vV, kE, kV', callF, ar_nil, ar_cons, dn_fz, dn_ow, dn_bag, dn_scr, d_fz, d_ow, b_of, isiF, blF, cmpF, chainF, orElse, lenS, bltF1, notT, andT, orT, tstF, l_list, l_tuple, l_all, l_listL, l_listT, l_tupL, l_tupT, l_abs, c_lt, c_le, c_gt, c_ge, c_eqI, c_neI, c_inS, c_niS, i_list, i_tuple, i_str, x_list, x_tuple, plainF, ixF, ixS, asgF, unpF, unF, setAll, List.length_cons, List.length_nil, List.map_cons, List.map_nil, if_true, if_false, List.cons_append, List.nil_append, List.append_nil, List.getElem?_cons_zero, List.getElem?_cons_succ, List.replicate, List.set_cons_zero, List.set_cons_succ, Option.bind_some, Option.map_some, Option.bind_none, Option.map_none, Bool.not_true, Bool.not_false, Bool.false_eq_true, Bool.or_false, Bool.or_true, Nat.reduceAdd, Nat.reduceSub, Nat.zero_add, decide_true, decide_false, Bool.true_and, Bool.false_and, Bool.and_true, Bool.and_false, wp_some, wp_none, wp_bind, wp_map, wp_if, binF, slF, partF, negE, y_list, y_tuple, lstF, tupF, ds_nil, ds_fz, setF, setS, appS, par2F, par3F, wp_frz, dict0, dict1, Iv.keyOf, kD, flatD, upF, revF, bltF2, swS, isiF2, lenOk_of, Nat.reduceLeDiff, b_add, b_sub, Int.reduceBEq, beq_self_eq_true, Int.reduceAdd, Int.reduceSub, e4]
      exact q _ s (.lst hl hsp) (by have := dp.2; omega) b
  unfold spSeq
  try simp only [frzS, frzs, frz1, retF, retS, ifS, skipS, andE, orE, notE, ifE, valF, vE, vV, kE, kV', callF, ar_nil, ar_cons, dn_fz, dn_ow, dn_bag, dn_scr, d_fz, d_ow, b_of, isiF, blF, cmpF, chainF, orElse, lenS, bltF1, notT, andT, orT, tstF, l_list, l_tuple, l_all, l_listL, l_listT, l_tupL, l_tupT, l_abs, c_lt, c_le, c_gt, c_ge, c_eqI, c_neI, c_inS, c_niS, i_list, i_tuple, i_str, x_list, x_tuple, plainF, ixF, ixS, asgF, unpF, unF, setAll, List.length_cons, List.length_nil, List.map_cons, List.map_nil, if_true, if_false, List.cons_append, List.nil_append, List.append_nil, List.getElem?_cons_zero, List.getElem?_cons_succ, List.replicate, List.set_cons_zero, List.set_cons_succ, Option.bind_some, Option.map_some, Option.bind_none, Option.map_none, Bool.not_true, Bool.not_false, Bool.false_eq_true, Bool.or_false, Bool.or_true, Nat.reduceAdd, Nat.reduceSub, Nat.zero_add, decide_true, decide_false, Bool.true_and, Bool.false_and, Bool.and_true, Bool.and_false, wp_some, wp_none, wp_bind, wp_map, wp_if, binF, slF, partF, negE, y_list, y_tuple, lstF, tupF, ds_nil, ds_fz, setF, setS, appS, par2F, par3F, wp_frz, dict0, dict1, Iv.keyOf, kD, flatD, upF, revF, bltF2, swS, isiF2, lenOk_of, Nat.reduceLeDiff, b_add, b_sub, Int.reduceBEq, beq_self_eq_true, Int.reduceAdd, Int.reduceSub, e1, e2, c1, c2]
  refine wp_seq ?_
  try simp only [frzS, frzs, frz1, retF, retS, ifS, skipS, andE, orE, notE, ifE, valF, vE, vV, kE, kV', callF, ar_nil, ar_cons, dn_fz, dn_ow, dn_bag, dn_scr, d_fz, d_ow, b_of, isiF, blF, cmpF, chainF, orElse, lenS, bltF1, notT, andT, orT, tstF, l_list, l_tuple, l_all, l_listL, l_listT, l_tupL, l_tupT, l_abs, c_lt, c_le, c_gt, c_ge, c_eqI, c_neI, c_inS, c_niS, i_list, i_tuple, i_str, x_list, x_tuple, plainF, ixF, ixS, asgF, unpF, unF, setAll, List.length_cons, List.length_nil, List.map_cons, List.map_nil, if_true, if_false, List.cons_append, List.nil_append, List.append_nil, List.getElem?_cons_zero, List.getElem?_cons_succ, List.replicate, List.set_cons_zero, List.set_cons_succ, Option.bind_some, Option.map_some, Option.bind_none, Option.map_none, Bool.not_true, Bool.not_false, Bool.false_eq_true, Bool.or_false, Bool.or_true, Nat.reduceAdd, Nat.reduceSub, Nat.zero_add, decide_true, decide_false, Bool.true_and, Bool.false_and, Bool.and_true, Bool.and_false, wp_some, wp_none, wp_bind, wp_map, wp_if, binF, slF, partF, negE, y_list, y_tuple, lstF, tupF, ds_nil, ds_fz, setF, setS, appS, par2F, par3F, wp_frz, dict0, dict1, Iv.keyOf, kD, flatD, upF, revF, bltF2, swS, isiF2, lenOk_of, Nat.reduceLeDiff, b_add, b_sub, Int.reduceBEq, beq_self_eq_true, Int.reduceAdd, Int.reduceSub, e3]
  refine wp_seq ?_
  try simp only [frzS, frzs, frz1, retF, retS, ifS, skipS, andE, orE, notE, ifE, valF, vE, vV, kE, kV', callF, ar_nil, ar_cons, dn_fz, dn_ow, dn_bag, dn_scr, d_fz, d_ow, b_of, isiF, blF, cmpF, chainF, orElse, lenS, bltF1, notT, andT, orT, tstF, l_list, l_tuple, l_all, l_listL, l_listT, l_tupL, l_tupT, l_abs, c_lt, c_le, c_gt, c_ge, c_eqI, c_neI, c_inS, c_niS, i_list, i_tuple, i_str, x_list, x_tuple, plainF, ixF, ixS, asgF, unpF, unF, setAll, List.length_cons, List.length_nil, List.map_cons, List.map_nil, if_true, if_false, List.cons_append, List.nil_append, List.append_nil, List.getElem?_cons_zero, List.getElem?_cons_succ, List.replicate, List.set_cons_zero, List.set_cons_succ, Option.bind_some, Option.map_some, Option.bind_none, Option.map_none, Bool.not_true, Bool.not_false, Bool.false_eq_true, Bool.or_false, Bool.or_true, Nat.reduceAdd, Nat.reduceSub, Nat.zero_add, decide_true, decide_false, Bool.true_and, Bool.false_and, Bool.and_true, Bool.and_false, wp_some, wp_none, wp_bind, wp_map, wp_if, binF, slF, partF, negE, y_list, y_tuple, lstF, tupF, ds_nil, ds_fz, setF, setS, appS, par2F, par3F, wp_frz, dict0, dict1, Iv.keyOf, kD, flatD, upF, revF, bltF2, swS, isiF2, lenOk_of, Nat.reduceLeDiff, b_add, b_sub, Int.reduceBEq, beq_self_eq_true, Int.reduceAdd, Int.reduceSub]
  refine w_take hs (by omega) (by omega) fun at_ s1 a0 a1 b1 => ?_
  try simp only [frzS, frzs, frz1, retF, retS, ifS, skipS, andE, orE, notE, ifE, valF, vE, vV, kE, kV', callF, ar_nil, ar_cons, dn_fz, dn_ow, dn_bag, dn_scr, d_fz, d_ow, b_of, isiF, blF, cmpF, chainF, orElse, lenS, bltF1, notT, andT, orT, tstF, l_list, l_tuple, l_all, l_listL, l_listT, l_tupL, l_tupT, l_abs, c_lt, c_le, c_gt, c_ge, c_eqI, c_neI, c_inS, c_niS, i_list, i_tuple, i_str, x_list, x_tuple, plainF, ixF, ixS, asgF, unpF, unF, setAll, List.length_cons, List.length_nil, List.map_cons, List.map_nil, if_true, if_false, List.cons_append, List.nil_append, List.append_nil, List.getElem?_cons_zero, List.getElem?_cons_succ, List.replicate, List.set_cons_zero, List.set_cons_succ, Option.bind_some, Option.map_some, Option.bind_none, Option.map_none, Bool.not_true, Bool.not_false, Bool.false_eq_true, Bool.or_false, Bool.or_true, Nat.reduceAdd, Nat.reduceSub, Nat.zero_add, decide_true, decide_false, Bool.true_and, Bool.false_and, Bool.and_true, Bool.and_false, wp_some, wp_none, wp_bind, wp_map, wp_if, binF, slF, partF, negE, y_list, y_tuple, lstF, tupF, ds_nil, ds_fz, setF, setS, appS, par2F, par3F, wp_frz, dict0, dict1, Iv.keyOf, kD, flatD, upF, revF, bltF2, swS, isiF2, lenOk_of, Nat.reduceLeDiff, b_add, b_sub, Int.reduceBEq, beq_self_eq_true, Int.reduceAdd, Int.reduceSub]
  refine wp_seq ?_
  obtain ⟨j, rfl⟩ : ∃ j : Nat, at_ = (j : Int) := ⟨at_.toNat, by omega⟩
  have hj : j < xs.length := by omega
  have hxj : ∀ x ∈ xs, Sp (n + 1) x := fun x hx => (hxs x hx).up
  have hxd4 : ∀ x ∈ xs, x.depth ≤ m + 4 := fun x hx => by have := hxd x hx; omega
  have hat : atI xs (j : Int) = some xs[j] := atI_nat (List.getElem?_eq_getElem hj)
  rcases (show i = 1 ∨ i = 2 ∨ i = 3 ∨ i = 4 ∨ (i = 5 ∨ i = 6 ∨ i = 7 ∨ i = 8) by omega) with rfl | rfl | rfl | rfl | hi
  · have a2 := b_addL (xs := cutL xs none (some (j : Int))) (ys := cutL xs (some ((j : Int) + 1)) none) (by have := len_cut_le xs none (some (j : Int)); have := len_cut_le xs (some ((j : Int) + 1)) none; omega)
    have ct := cut_take xs j
    have cd : cutL xs (some ((j : Int) + 1)) none = xs.drop (j + 1) := cut_drop xs (j + 1)
    try simp only [frzS, frzs, frz1, retF, retS, ifS, skipS, andE, orE, notE, ifE, valF, vE, vV, kE, kV', callF, ar_nil, ar_cons, dn_fz, dn_ow, dn_bag, dn_scr, d_fz, d_ow, b_of, isiF, blF, cmpF, chainF, orElse, lenS, bltF1, notT, andT, orT, tstF, l_list, l_tuple, l_all, l_listL, l_listT, l_tupL, l_tupT, l_abs, c_lt, c_le, c_gt, c_ge, c_eqI, c_neI, c_inS, c_niS, i_list, i_tuple, i_str, x_list, x_tuple, plainF, ixF, ixS, asgF, unpF, unF, setAll, List.length_cons, List.length_nil, List.map_cons, List.map_nil, if_true, if_false, List.cons_append, List.nil_append, List.append_nil, List.getElem?_cons_zero, List.getElem?_cons_succ, List.replicate, List.set_cons_zero, List.set_cons_succ, Option.bind_some, Option.map_some, Option.bind_none, Option.map_none, Bool.not_true, Bool.not_false, Bool.false_eq_true, Bool.or_false, Bool.or_true, Nat.reduceAdd, Nat.reduceSub, Nat.zero_add, decide_true, decide_false, Bool.true_and, Bool.false_and, Bool.and_true, Bool.and_false, wp_some, wp_none, wp_bind, wp_map, wp_if, binF, slF, partF, negE, y_list, y_tuple, lstF, tupF, ds_nil, ds_fz, setF, setS, appS, par2F, par3F, wp_frz, dict0, dict1, Iv.keyOf, kD, flatD, upF, revF, bltF2, swS, isiF2, lenOk_of, Nat.reduceLeDiff, b_add, b_sub, Int.reduceBEq, beq_self_eq_true, Int.reduceAdd, Int.reduceSub]
    refine wp_seq ?_
    try simp only [frzS, frzs, frz1, retF, retS, ifS, skipS, andE, orE, notE, ifE, valF, vE, vV, kE, kV', callF, ar_nil, ar_cons, dn_fz, dn_ow, dn_bag, dn_scr, d_fz, d_ow, b_of, isiF, blF, cmpF, chainF, orElse, lenS, bltF1, notT, andT, orT, tstF, l_list, l_tuple, l_all, l_listL, l_listT, l_tupL, l_tupT, l_abs, c_lt, c_le, c_gt, c_ge, c_eqI, c_neI, c_inS, c_niS, i_list, i_tuple, i_str, x_list, x_tuple, plainF, ixF, ixS, asgF, unpF, unF, setAll, List.length_cons, List.length_nil, List.map_cons, List.map_nil, if_true, if_false, List.cons_append, List.nil_append, List.append_nil, List.getElem?_cons_zero, List.getElem?_cons_succ, List.replicate, List.set_cons_zero, List.set_cons_succ, Option.bind_some, Option.map_some, Option.bind_none, Option.map_none, Bool.not_true, Bool.not_false, Bool.false_eq_true, Bool.or_false, Bool.or_true, Nat.reduceAdd, Nat.reduceSub, Nat.zero_add, decide_true, decide_false, Bool.true_and, Bool.false_and, Bool.and_true, Bool.and_false, wp_some, wp_none, wp_bind, wp_map, wp_if, binF, slF, partF, negE, y_list, y_tuple, lstF, tupF, ds_nil, ds_fz, setF, setS, appS, par2F, par3F, wp_frz, dict0, dict1, Iv.keyOf, kD, flatD, upF, revF, bltF2, swS, isiF2, lenOk_of, Nat.reduceLeDiff, b_add, b_sub, Int.reduceBEq, beq_self_eq_true, Int.reduceAdd, Int.reduceSub, a2]
    refine fin _ _ _ s1 b1 ?_ (fun x hx => ?_) (fun x hx => ?_)
    · rw [ct, cd, List.length_append, List.length_take, List.length_drop]; omega
    · exact hxj x ((List.mem_append.mp hx).elim mem_cut mem_cut)
    · exact hxd4 x ((List.mem_append.mp hx).elim mem_cut mem_cut)
  · have a2 := b_addL (xs := cutL xs none (some ((j : Int) + 1))) (ys := cutL xs (some (j : Int)) none) (by have := len_cut_le xs none (some ((j : Int) + 1)); have := len_cut_le xs (some (j : Int)) none; omega)
    have ct : cutL xs none (some ((j : Int) + 1)) = xs.take (j + 1) := cut_take xs (j + 1)
    have cd := cut_drop xs j
    try simp only [frzS, frzs, frz1, retF, retS, ifS, skipS, andE, orE, notE, ifE, valF, vE, vV, kE, kV', callF, ar_nil, ar_cons, dn_fz, dn_ow, dn_bag, dn_scr, d_fz, d_ow, b_of, isiF, blF, cmpF, chainF, orElse, lenS, bltF1, notT, andT, orT, tstF, l_list, l_tuple, l_all, l_listL, l_listT, l_tupL, l_tupT, l_abs, c_lt, c_le, c_gt, c_ge, c_eqI, c_neI, c_inS, c_niS, i_list, i_tuple, i_str, x_list, x_tuple, plainF, ixF, ixS, asgF, unpF, unF, setAll, List.length_cons, List.length_nil, List.map_cons, List.map_nil, if_true, if_false, List.cons_append, List.nil_append, List.append_nil, List.getElem?_cons_zero, List.getElem?_cons_succ, List.replicate, List.set_cons_zero, List.set_cons_succ, Option.bind_some, Option.map_some, Option.bind_none, Option.map_none, Bool.not_true, Bool.not_false, Bool.false_eq_true, Bool.or_false, Bool.or_true, Nat.reduceAdd, Nat.reduceSub, Nat.zero_add, decide_true, decide_false, Bool.true_and, Bool.false_and, Bool.and_true, Bool.and_false, wp_some, wp_none, wp_bind, wp_map, wp_if, binF, slF, partF, negE, y_list, y_tuple, lstF, tupF, ds_nil, ds_fz, setF, setS, appS, par2F, par3F, wp_frz, dict0, dict1, Iv.keyOf, kD, flatD, upF, revF, bltF2, swS, isiF2, lenOk_of, Nat.reduceLeDiff, b_add, b_sub, Int.reduceBEq, beq_self_eq_true, Int.reduceAdd, Int.reduceSub]
    refine wp_seq ?_
    try simp only [frzS, frzs, frz1, retF, retS, ifS, skipS, andE, orE, notE, ifE, valF, vE, vV, kE, kV', callF, ar_nil, ar_cons, dn_fz, dn_ow, dn_bag, dn_scr, d_fz, d_ow, b_of, isiF, blF, cmpF, chainF, orElse, lenS, bltF1, notT, andT, orT, tstF, l_list, l_tuple, l_all, l_listL, l_listT, l_tupL, l_tupT, l_abs, c_lt, c_le, c_gt, c_ge, c_eqI, c_neI, c_inS, c_niS, i_list, i_tuple, i_str, x_list, x_tuple, plainF, ixF, ixS, asgF, unpF, unF, setAll, List.length_cons, List.length_nil, List.map_cons, List.map_nil, if_true, if_false, List.cons_append, List.nil_append, List.append_nil, List.getElem?_cons_zero, List.getElem?_cons_succ, List.replicate, List.set_cons_zero, List.set_cons_succ, Option.bind_some, Option.map_some, Option.bind_none, Option.map_none, Bool.not_true, Bool.not_false, Bool.false_eq_true, Bool.or_false, Bool.or_true, Nat.reduceAdd, Nat.reduceSub, Nat.zero_add, decide_true, decide_false, Bool.true_and, Bool.false_and, Bool.and_true, Bool.and_false, wp_some, wp_none, wp_bind, wp_map, wp_if, binF, slF, partF, negE, y_list, y_tuple, lstF, tupF, ds_nil, ds_fz, setF, setS, appS, par2F, par3F, wp_frz, dict0, dict1, Iv.keyOf, kD, flatD, upF, revF, bltF2, swS, isiF2, lenOk_of, Nat.reduceLeDiff, b_add, b_sub, Int.reduceBEq, beq_self_eq_true, Int.reduceAdd, Int.reduceSub]
    refine wp_seq ?_
    try simp only [frzS, frzs, frz1, retF, retS, ifS, skipS, andE, orE, notE, ifE, valF, vE, vV, kE, kV', callF, ar_nil, ar_cons, dn_fz, dn_ow, dn_bag, dn_scr, d_fz, d_ow, b_of, isiF, blF, cmpF, chainF, orElse, lenS, bltF1, notT, andT, orT, tstF, l_list, l_tuple, l_all, l_listL, l_listT, l_tupL, l_tupT, l_abs, c_lt, c_le, c_gt, c_ge, c_eqI, c_neI, c_inS, c_niS, i_list, i_tuple, i_str, x_list, x_tuple, plainF, ixF, ixS, asgF, unpF, unF, setAll, List.length_cons, List.length_nil, List.map_cons, List.map_nil, if_true, if_false, List.cons_append, List.nil_append, List.append_nil, List.getElem?_cons_zero, List.getElem?_cons_succ, List.replicate, List.set_cons_zero, List.set_cons_succ, Option.bind_some, Option.map_some, Option.bind_none, Option.map_none, Bool.not_true, Bool.not_false, Bool.false_eq_true, Bool.or_false, Bool.or_true, Nat.reduceAdd, Nat.reduceSub, Nat.zero_add, decide_true, decide_false, Bool.true_and, Bool.false_and, Bool.and_true, Bool.and_false, wp_some, wp_none, wp_bind, wp_map, wp_if, binF, slF, partF, negE, y_list, y_tuple, lstF, tupF, ds_nil, ds_fz, setF, setS, appS, par2F, par3F, wp_frz, dict0, dict1, Iv.keyOf, kD, flatD, upF, revF, bltF2, swS, isiF2, lenOk_of, Nat.reduceLeDiff, b_add, b_sub, Int.reduceBEq, beq_self_eq_true, Int.reduceAdd, Int.reduceSub, a2]
    refine fin _ _ _ s1 b1 ?_ (fun x hx => ?_) (fun x hx => ?_)
    · rw [ct, cd, List.length_append, List.length_take, List.length_drop]; omega
    · exact hxj x ((List.mem_append.mp hx).elim mem_cut mem_cut)
    · exact hxd4 x ((List.mem_append.mp hx).elim mem_cut mem_cut)
  · try simp only [frzS, frzs, frz1, retF, retS, ifS, skipS, andE, orE, notE, ifE, valF, vE, vV, kE, kV', callF, ar_nil, ar_cons, dn_fz, dn_ow, dn_bag, dn_scr, d_fz, d_ow, b_of, isiF, blF, cmpF, chainF, orElse, lenS, bltF1, notT, andT, orT, tstF, l_list, l_tuple, l_all, l_listL, l_listT, l_tupL, l_tupT, l_abs, c_lt, c_le, c_gt, c_ge, c_eqI, c_neI, c_inS, c_niS, i_list, i_tuple, i_str, x_list, x_tuple, plainF, ixF, ixS, asgF, unpF, unF, setAll, List.length_cons, List.length_nil, List.map_cons, List.map_nil, if_true, if_false, List.cons_append, List.nil_append, List.append_nil, List.getElem?_cons_zero, List.getElem?_cons_succ, List.replicate, List.set_cons_zero, List.set_cons_succ, Option.bind_some, Option.map_some, Option.bind_none, Option.map_none, Bool.not_true, Bool.not_false, Bool.false_eq_true, Bool.or_false, Bool.or_true, Nat.reduceAdd, Nat.reduceSub, Nat.zero_add, decide_true, decide_false, Bool.true_and, Bool.false_and, Bool.and_true, Bool.and_false, wp_some, wp_none, wp_bind, wp_map, wp_if, binF, slF, partF, negE, y_list, y_tuple, lstF, tupF, ds_nil, ds_fz, setF, setS, appS, par2F, par3F, wp_frz, dict0, dict1, Iv.keyOf, kD, flatD, upF, revF, bltF2, swS, isiF2, lenOk_of, Nat.reduceLeDiff, b_add, b_sub, Int.reduceBEq, beq_self_eq_true, Int.reduceAdd, Int.reduceSub]
    refine wp_seq ?_
    try simp only [frzS, frzs, frz1, retF, retS, ifS, skipS, andE, orE, notE, ifE, valF, vE, vV, kE, kV', callF, ar_nil, ar_cons, dn_fz, dn_ow, dn_bag, dn_scr, d_fz, d_ow, b_of, isiF, blF, cmpF, chainF, orElse, lenS, bltF1, notT, andT, orT, tstF, l_list, l_tuple, l_all, l_listL, l_listT, l_tupL, l_tupT, l_abs, c_lt, c_le, c_gt, c_ge, c_eqI, c_neI, c_inS, c_niS, i_list, i_tuple, i_str, x_list, x_tuple, plainF, ixF, ixS, asgF, unpF, unF, setAll, List.length_cons, List.length_nil, List.map_cons, List.map_nil, if_true, if_false, List.cons_append, List.nil_append, List.append_nil, List.getElem?_cons_zero, List.getElem?_cons_succ, List.replicate, List.set_cons_zero, List.set_cons_succ, Option.bind_some, Option.map_some, Option.bind_none, Option.map_none, Bool.not_true, Bool.not_false, Bool.false_eq_true, Bool.or_false, Bool.or_true, Nat.reduceAdd, Nat.reduceSub, Nat.zero_add, decide_true, decide_false, Bool.true_and, Bool.false_and, Bool.and_true, Bool.and_false, wp_some, wp_none, wp_bind, wp_map, wp_if, binF, slF, partF, negE, y_list, y_tuple, lstF, tupF, ds_nil, ds_fz, setF, setS, appS, par2F, par3F, wp_frz, dict0, dict1, Iv.keyOf, kD, flatD, upF, revF, bltF2, swS, isiF2, lenOk_of, Nat.reduceLeDiff, b_add, b_sub, Int.reduceBEq, beq_self_eq_true, Int.reduceAdd, Int.reduceSub]
    refine wp_seq ?_
    try simp only [frzS, frzs, frz1, retF, retS, ifS, skipS, andE, orE, notE, ifE, valF, vE, vV, kE, kV', callF, ar_nil, ar_cons, dn_fz, dn_ow, dn_bag, dn_scr, d_fz, d_ow, b_of, isiF, blF, cmpF, chainF, orElse, lenS, bltF1, notT, andT, orT, tstF, l_list, l_tuple, l_all, l_listL, l_listT, l_tupL, l_tupT, l_abs, c_lt, c_le, c_gt, c_ge, c_eqI, c_neI, c_inS, c_niS, i_list, i_tuple, i_str, x_list, x_tuple, plainF, ixF, ixS, asgF, unpF, unF, setAll, List.length_cons, List.length_nil, List.map_cons, List.map_nil, if_true, if_false, List.cons_append, List.nil_append, List.append_nil, List.getElem?_cons_zero, List.getElem?_cons_succ, List.replicate, List.set_cons_zero, List.set_cons_succ, Option.bind_some, Option.map_some, Option.bind_none, Option.map_none, Bool.not_true, Bool.not_false, Bool.false_eq_true, Bool.or_false, Bool.or_true, Nat.reduceAdd, Nat.reduceSub, Nat.zero_add, decide_true, decide_false, Bool.true_and, Bool.false_and, Bool.and_true, Bool.and_false, wp_some, wp_none, wp_bind, wp_map, wp_if, binF, slF, partF, negE, y_list, y_tuple, lstF, tupF, ds_nil, ds_fz, setF, setS, appS, par2F, par3F, wp_frz, dict0, dict1, Iv.keyOf, kD, flatD, upF, revF, bltF2, swS, isiF2, lenOk_of, Nat.reduceLeDiff, b_add, b_sub, Int.reduceBEq, beq_self_eq_true, Int.reduceAdd, Int.reduceSub]
    refine wp_seq ?_
    try simp only [frzS, frzs, frz1, retF, retS, ifS, skipS, andE, orE, notE, ifE, valF, vE, vV, kE, kV', callF, ar_nil, ar_cons, dn_fz, dn_ow, dn_bag, dn_scr, d_fz, d_ow, b_of, isiF, blF, cmpF, chainF, orElse, lenS, bltF1, notT, andT, orT, tstF, l_list, l_tuple, l_all, l_listL, l_listT, l_tupL, l_tupT, l_abs, c_lt, c_le, c_gt, c_ge, c_eqI, c_neI, c_inS, c_niS, i_list, i_tuple, i_str, x_list, x_tuple, plainF, ixF, ixS, asgF, unpF, unF, setAll, List.length_cons, List.length_nil, List.map_cons, List.map_nil, if_true, if_false, List.cons_append, List.nil_append, List.append_nil, List.getElem?_cons_zero, List.getElem?_cons_succ, List.replicate, List.set_cons_zero, List.set_cons_succ, Option.bind_some, Option.map_some, Option.bind_none, Option.map_none, Bool.not_true, Bool.not_false, Bool.false_eq_true, Bool.or_false, Bool.or_true, Nat.reduceAdd, Nat.reduceSub, Nat.zero_add, decide_true, decide_false, Bool.true_and, Bool.false_and, Bool.and_true, Bool.and_false, wp_some, wp_none, wp_bind, wp_map, wp_if, binF, slF, partF, negE, y_list, y_tuple, lstF, tupF, ds_nil, ds_fz, setF, setS, appS, par2F, par3F, wp_frz, dict0, dict1, Iv.keyOf, kD, flatD, upF, revF, bltF2, swS, isiF2, lenOk_of, Nat.reduceLeDiff, b_add, b_sub, Int.reduceBEq, beq_self_eq_true, Int.reduceAdd, Int.reduceSub]
    refine w_take b1 (by omega) (by omega) fun a3 s2 g0 g1 b2 => ?_
    obtain ⟨l, rfl⟩ : ∃ l : Nat, a3 = (l : Int) := ⟨a3.toNat, by omega⟩
    have hl : l < xs.length := by omega
    have hal : atI xs (l : Int) = some xs[l] := atI_nat (List.getElem?_eq_getElem hl)
    try simp only [frzS, frzs, frz1, retF, retS, ifS, skipS, andE, orE, notE, ifE, valF, vE, vV, kE, kV', callF, ar_nil, ar_cons, dn_fz, dn_ow, dn_bag, dn_scr, d_fz, d_ow, b_of, isiF, blF, cmpF, chainF, orElse, lenS, bltF1, notT, andT, orT, tstF, l_list, l_tuple, l_all, l_listL, l_listT, l_tupL, l_tupT, l_abs, c_lt, c_le, c_gt, c_ge, c_eqI, c_neI, c_inS, c_niS, i_list, i_tuple, i_str, x_list, x_tuple, plainF, ixF, ixS, asgF, unpF, unF, setAll, List.length_cons, List.length_nil, List.map_cons, List.map_nil, if_true, if_false, List.cons_append, List.nil_append, List.append_nil, List.getElem?_cons_zero, List.getElem?_cons_succ, List.replicate, List.set_cons_zero, List.set_cons_succ, Option.bind_some, Option.map_some, Option.bind_none, Option.map_none, Bool.not_true, Bool.not_false, Bool.false_eq_true, Bool.or_false, Bool.or_true, Nat.reduceAdd, Nat.reduceSub, Nat.zero_add, decide_true, decide_false, Bool.true_and, Bool.false_and, Bool.and_true, Bool.and_false, wp_some, wp_none, wp_bind, wp_map, wp_if, binF, slF, partF, negE, y_list, y_tuple, lstF, tupF, ds_nil, ds_fz, setF, setS, appS, par2F, par3F, wp_frz, dict0, dict1, Iv.keyOf, kD, flatD, upF, revF, bltF2, swS, isiF2, lenOk_of, Nat.reduceLeDiff, b_add, b_sub, Int.reduceBEq, beq_self_eq_true, Int.reduceAdd, Int.reduceSub]
    refine wp_seq ?_
    have i1' : ixN xs.length (j : Int) = some j := ix_nat hj
    have i2' : ixN xs.length (l : Int) = some l := ix_nat hl
    have m1 : xs[l] ∈ xs := List.getElem_mem hl
    have m2 : xs[j] ∈ xs := List.getElem_mem hj
    generalize xs[l] = y1 at hal m1
    generalize xs[j] = y2 at hat m2
    try simp only [frzS, frzs, frz1, retF, retS, ifS, skipS, andE, orE, notE, ifE, valF, vE, vV, kE, kV', callF, ar_nil, ar_cons, dn_fz, dn_ow, dn_bag, dn_scr, d_fz, d_ow, b_of, isiF, blF, cmpF, chainF, orElse, lenS, bltF1, notT, andT, orT, tstF, l_list, l_tuple, l_all, l_listL, l_listT, l_tupL, l_tupT, l_abs, c_lt, c_le, c_gt, c_ge, c_eqI, c_neI, c_inS, c_niS, i_list, i_tuple, i_str, x_list, x_tuple, plainF, ixF, ixS, asgF, unpF, unF, setAll, List.length_cons, List.length_nil, List.map_cons, List.map_nil, if_true, if_false, List.cons_append, List.nil_append, List.append_nil, List.getElem?_cons_zero, List.getElem?_cons_succ, List.replicate, List.set_cons_zero, List.set_cons_succ, Option.bind_some, Option.map_some, Option.bind_none, Option.map_none, Bool.not_true, Bool.not_false, Bool.false_eq_true, Bool.or_false, Bool.or_true, Nat.reduceAdd, Nat.reduceSub, Nat.zero_add, decide_true, decide_false, Bool.true_and, Bool.false_and, Bool.and_true, Bool.and_false, wp_some, wp_none, wp_bind, wp_map, wp_if, binF, slF, partF, negE, y_list, y_tuple, lstF, tupF, ds_nil, ds_fz, setF, setS, appS, par2F, par3F, wp_frz, dict0, dict1, Iv.keyOf, kD, flatD, upF, revF, bltF2, swS, isiF2, lenOk_of, Nat.reduceLeDiff, b_add, b_sub, Int.reduceBEq, beq_self_eq_true, Int.reduceAdd, Int.reduceSub, hal, hat, i1', i2']
    have mm : ∀ x ∈ (xs.set j y1).set l y2, x ∈ xs := fun x hx => by
      rcases set_mem' hx with hx | rfl
      · rcases set_mem' hx with hx | rfl
        · exact hx
        · exact m1
      · exact m2
    refine fin _ _ _ s2 b2 ?_ (fun x hx => hxj x (mm x hx)) (fun x hx => hxd4 x (mm x hx))
    rw [List.length_set, List.length_set]; omega
  · try simp only [frzS, frzs, frz1, retF, retS, ifS, skipS, andE, orE, notE, ifE, valF, vE, vV, kE, kV', callF, ar_nil, ar_cons, dn_fz, dn_ow, dn_bag, dn_scr, d_fz, d_ow, b_of, isiF, blF, cmpF, chainF, orElse, lenS, bltF1, notT, andT, orT, tstF, l_list, l_tuple, l_all, l_listL, l_listT, l_tupL, l_tupT, l_abs, c_lt, c_le, c_gt, c_ge, c_eqI, c_neI, c_inS, c_niS, i_list, i_tuple, i_str, x_list, x_tuple, plainF, ixF, ixS, asgF, unpF, unF, setAll, List.length_cons, List.length_nil, List.map_cons, List.map_nil, if_true, if_false, List.cons_append, List.nil_append, List.append_nil, List.getElem?_cons_zero, List.getElem?_cons_succ, List.replicate, List.set_cons_zero, List.set_cons_succ, Option.bind_some, Option.map_some, Option.bind_none, Option.map_none, Bool.not_true, Bool.not_false, Bool.false_eq_true, Bool.or_false, Bool.or_true, Nat.reduceAdd, Nat.reduceSub, Nat.zero_add, decide_true, decide_false, Bool.true_and, Bool.false_and, Bool.and_true, Bool.and_false, wp_some, wp_none, wp_bind, wp_map, wp_if, binF, slF, partF, negE, y_list, y_tuple, lstF, tupF, ds_nil, ds_fz, setF, setS, appS, par2F, par3F, wp_frz, dict0, dict1, Iv.keyOf, kD, flatD, upF, revF, bltF2, swS, isiF2, lenOk_of, Nat.reduceLeDiff, b_add, b_sub, Int.reduceBEq, beq_self_eq_true, Int.reduceAdd, Int.reduceSub]
    refine wp_seq ?_
    try simp only [frzS, frzs, frz1, retF, retS, ifS, skipS, andE, orE, notE, ifE, valF, vE, vV, kE, kV', callF, ar_nil, ar_cons, dn_fz, dn_ow, dn_bag, dn_scr, d_fz, d_ow, b_of, isiF, blF, cmpF, chainF, orElse, lenS, bltF1, notT, andT, orT, tstF, l_list, l_tuple, l_all, l_listL, l_listT, l_tupL, l_tupT, l_abs, c_lt, c_le, c_gt, c_ge, c_eqI, c_neI, c_inS, c_niS, i_list, i_tuple, i_str, x_list, x_tuple, plainF, ixF, ixS, asgF, unpF, unF, setAll, List.length_cons, List.length_nil, List.map_cons, List.map_nil, if_true, if_false, List.cons_append, List.nil_append, List.append_nil, List.getElem?_cons_zero, List.getElem?_cons_succ, List.replicate, List.set_cons_zero, List.set_cons_succ, Option.bind_some, Option.map_some, Option.bind_none, Option.map_none, Bool.not_true, Bool.not_false, Bool.false_eq_true, Bool.or_false, Bool.or_true, Nat.reduceAdd, Nat.reduceSub, Nat.zero_add, decide_true, decide_false, Bool.true_and, Bool.false_and, Bool.and_true, Bool.and_false, wp_some, wp_none, wp_bind, wp_map, wp_if, binF, slF, partF, negE, y_list, y_tuple, lstF, tupF, ds_nil, ds_fz, setF, setS, appS, par2F, par3F, wp_frz, dict0, dict1, Iv.keyOf, kD, flatD, upF, revF, bltF2, swS, isiF2, lenOk_of, Nat.reduceLeDiff, b_add, b_sub, Int.reduceBEq, beq_self_eq_true, Int.reduceAdd, Int.reduceSub]
    refine wp_seq ?_
    try simp only [frzS, frzs, frz1, retF, retS, ifS, skipS, andE, orE, notE, ifE, valF, vE, vV, kE, kV', callF, ar_nil, ar_cons, dn_fz, dn_ow, dn_bag, dn_scr, d_fz, d_ow, b_of, isiF, blF, cmpF, chainF, orElse, lenS, bltF1, notT, andT, orT, tstF, l_list, l_tuple, l_all, l_listL, l_listT, l_tupL, l_tupT, l_abs, c_lt, c_le, c_gt, c_ge, c_eqI, c_neI, c_inS, c_niS, i_list, i_tuple, i_str, x_list, x_tuple, plainF, ixF, ixS, asgF, unpF, unF, setAll, List.length_cons, List.length_nil, List.map_cons, List.map_nil, if_true, if_false, List.cons_append, List.nil_append, List.append_nil, List.getElem?_cons_zero, List.getElem?_cons_succ, List.replicate, List.set_cons_zero, List.set_cons_succ, Option.bind_some, Option.map_some, Option.bind_none, Option.map_none, Bool.not_true, Bool.not_false, Bool.false_eq_true, Bool.or_false, Bool.or_true, Nat.reduceAdd, Nat.reduceSub, Nat.zero_add, decide_true, decide_false, Bool.true_and, Bool.false_and, Bool.and_true, Bool.and_false, wp_some, wp_none, wp_bind, wp_map, wp_if, binF, slF, partF, negE, y_list, y_tuple, lstF, tupF, ds_nil, ds_fz, setF, setS, appS, par2F, par3F, wp_frz, dict0, dict1, Iv.keyOf, kD, flatD, upF, revF, bltF2, swS, isiF2, lenOk_of, Nat.reduceLeDiff, b_add, b_sub, Int.reduceBEq, beq_self_eq_true, Int.reduceAdd, Int.reduceSub]
    refine wp_seq ?_
    try simp only [frzS, frzs, frz1, retF, retS, ifS, skipS, andE, orE, notE, ifE, valF, vE, vV, kE, kV', callF, ar_nil, ar_cons, dn_fz, dn_ow, dn_bag, dn_scr, d_fz, d_ow, b_of, isiF, blF, cmpF, chainF, orElse, lenS, bltF1, notT, andT, orT, tstF, l_list, l_tuple, l_all, l_listL, l_listT, l_tupL, l_tupT, l_abs, c_lt, c_le, c_gt, c_ge, c_eqI, c_neI, c_inS, c_niS, i_list, i_tuple, i_str, x_list, x_tuple, plainF, ixF, ixS, asgF, unpF, unF, setAll, List.length_cons, List.length_nil, List.map_cons, List.map_nil, if_true, if_false, List.cons_append, List.nil_append, List.append_nil, List.getElem?_cons_zero, List.getElem?_cons_succ, List.replicate, List.set_cons_zero, List.set_cons_succ, Option.bind_some, Option.map_some, Option.bind_none, Option.map_none, Bool.not_true, Bool.not_false, Bool.false_eq_true, Bool.or_false, Bool.or_true, Nat.reduceAdd, Nat.reduceSub, Nat.zero_add, decide_true, decide_false, Bool.true_and, Bool.false_and, Bool.and_true, Bool.and_false, wp_some, wp_none, wp_bind, wp_map, wp_if, binF, slF, partF, negE, y_list, y_tuple, lstF, tupF, ds_nil, ds_fz, setF, setS, appS, par2F, par3F, wp_frz, dict0, dict1, Iv.keyOf, kD, flatD, upF, revF, bltF2, swS, isiF2, lenOk_of, Nat.reduceLeDiff, b_add, b_sub, Int.reduceBEq, beq_self_eq_true, Int.reduceAdd, Int.reduceSub]
    refine wp_seq ?_
    have dp := depth_of hxd4
    cases tb with
    | true =>
      try simp only [frzS, frzs, frz1, retF, retS, ifS, skipS, andE, orE, notE, ifE, valF, vE, vV, kE, kV', callF, ar_nil, ar_cons, dn_fz, dn_ow, dn_bag, dn_scr, d_fz, d_ow, b_of, isiF, blF, cmpF, chainF, orElse, lenS, bltF1, notT, andT, orT, tstF, l_list, l_tuple, l_all, l_listL, l_listT, l_tupL, l_tupT, l_abs, c_lt, c_le, c_gt, c_ge, c_eqI, c_neI, c_inS, c_niS, i_list, i_tuple, i_str, x_list, x_tuple, plainF, ixF, ixS, asgF, unpF, unF, setAll, List.length_cons, List.length_nil, List.map_cons, List.map_nil, if_true, if_false, List.cons_append, List.nil_append, List.append_nil, List.getElem?_cons_zero, List.getElem?_cons_succ, List.replicate, List.set_cons_zero, List.set_cons_succ, Option.bind_some, Option.map_some, Option.bind_none, Option.map_none, Bool.not_true, Bool.not_false, Bool.false_eq_true, Bool.or_false, Bool.or_true, Nat.reduceAdd, Nat.reduceSub, Nat.zero_add, decide_true, decide_false, Bool.true_and, Bool.false_and, Bool.and_true, Bool.and_false, wp_some, wp_none, wp_bind, wp_map, wp_if, binF, slF, partF, negE, y_list, y_tuple, lstF, tupF, ds_nil, ds_fz, setF, setS, appS, par2F, par3F, wp_frz, dict0, dict1, Iv.keyOf, kD, flatD, upF, revF, bltF2, swS, isiF2, lenOk_of, Nat.reduceLeDiff, b_add, b_sub, Int.reduceBEq, beq_self_eq_true, Int.reduceAdd, Int.reduceSub, e4]
      exact q _ s1 (.lst (by omega) hxj) (by have := dp.2; omega) b1
    | false =>
      try simp only [frzS, frzs, frz1, retF, retS, ifS, skipS, andE, orE, notE, ifE, valF, vE, vV, kE, kV', callF, ar_nil, ar_cons, dn_fz, dn_ow, dn_bag, dn_scr, d_fz, d_ow, b_of, isiF, blF, cmpF, chainF, orElse, lenS, bltF1, notT, andT, orT, tstF, l_list, l_tuple, l_all, l_listL, l_listT, l_tupL, l_tupT, l_abs, c_lt, c_le, c_gt, c_ge, c_eqI, c_neI, c_inS, c_niS, i_list, i_tuple, i_str, x_list, x_tuple, plainF, ixF, ixS, asgF, unpF, unF, setAll, List.length_cons, List.length_nil, List.map_cons, List.map_nil, if_true, if_false, List.cons_append, List.nil_append, List.append_nil, List.getElem?_cons_zero, List.getElem?_cons_succ, List.replicate, List.set_cons_zero, List.set_cons_succ, Option.bind_some, Option.map_some, Option.bind_none, Option.map_none, Bool.not_true, Bool.not_false, Bool.false_eq_true, Bool.or_false, Bool.or_true, Nat.reduceAdd, Nat.reduceSub, Nat.zero_add, decide_true, decide_false, Bool.true_and, Bool.false_and, Bool.and_true, Bool.and_false, wp_some, wp_none, wp_bind, wp_map, wp_if, binF, slF, partF, negE, y_list, y_tuple, lstF, tupF, ds_nil, ds_fz, setF, setS, appS, par2F, par3F, wp_frz, dict0, dict1, Iv.keyOf, kD, flatD, upF, revF, bltF2, swS, isiF2, lenOk_of, Nat.reduceLeDiff, b_add, b_sub, Int.reduceBEq, beq_self_eq_true, Int.reduceAdd, Int.reduceSub, e4]
      exact q _ s1 (.tup (by omega) hxj) (by have := dp.1; omega) b1
  · have f1 : ((i : Int) == 1) = false := by rw [beq_eq_false_iff_ne]; omega
    have f2 : ((i : Int) == 2) = false := by rw [beq_eq_false_iff_ne]; omega
    have f3 : ((i : Int) == 3) = false := by rw [beq_eq_false_iff_ne]; omega
    have f4 : ((i : Int) == 4) = false := by rw [beq_eq_false_iff_ne]; omega
    try simp only [frzS, frzs, frz1, retF, retS, ifS, skipS, andE, orE, notE, ifE, valF, vE, vV, kE, kV', callF, ar_nil, ar_cons, dn_fz, dn_ow, dn_bag, dn_scr, d_fz, d_ow, b_of, isiF, blF, cmpF, chainF, orElse, lenS, bltF1, notT, andT, orT, tstF, l_list, l_tuple, l_all, l_listL, l_listT, l_tupL, l_tupT, l_abs, c_lt, c_le, c_gt, c_ge, c_eqI, c_neI, c_inS, c_niS, i_list, i_tuple, i_str, x_list, x_tuple, plainF, ixF, ixS, asgF, unpF, unF, setAll, List.length_cons, List.length_nil, List.map_cons, List.map_nil, if_true, if_false, List.cons_append, List.nil_append, List.append_nil, List.getElem?_cons_zero, List.getElem?_cons_succ, List.replicate, List.set_cons_zero, List.set_cons_succ, Option.bind_some, Option.map_some, Option.bind_none, Option.map_none, Bool.not_true, Bool.not_false, Bool.false_eq_true, Bool.or_false, Bool.or_true, Nat.reduceAdd, Nat.reduceSub, Nat.zero_add, decide_true, decide_false, Bool.true_and, Bool.false_and, Bool.and_true, Bool.and_false, wp_some, wp_none, wp_bind, wp_map, wp_if, binF, slF, partF, negE, y_list, y_tuple, lstF, tupF, ds_nil, ds_fz, setF, setS, appS, par2F, par3F, wp_frz, dict0, dict1, Iv.keyOf, kD, flatD, upF, revF, bltF2, swS, isiF2, lenOk_of, Nat.reduceLeDiff, b_add, b_sub, Int.reduceBEq, beq_self_eq_true, Int.reduceAdd, Int.reduceSub, f1, f2, f3, f4]
    refine wp_seq ?_
    try simp only [frzS, frzs, frz1, retF, retS, ifS, skipS, andE, orE, notE, ifE, valF, vE, vV, kE, kV', callF, ar_nil, ar_cons, dn_fz, dn_ow, dn_bag, dn_scr, d_fz, d_ow, b_of, isiF, blF, cmpF, chainF, orElse, lenS, bltF1, notT, andT, orT, tstF, l_list, l_tuple, l_all, l_listL, l_listT, l_tupL, l_tupT, l_abs, c_lt, c_le, c_gt, c_ge, c_eqI, c_neI, c_inS, c_niS, i_list, i_tuple, i_str, x_list, x_tuple, plainF, ixF, ixS, asgF, unpF, unF, setAll, List.length_cons, List.length_nil, List.map_cons, List.map_nil, if_true, if_false, List.cons_append, List.nil_append, List.append_nil, List.getElem?_cons_zero, List.getElem?_cons_succ, List.replicate, List.set_cons_zero, List.set_cons_succ, Option.bind_some, Option.map_some, Option.bind_none, Option.map_none, Bool.not_true, Bool.not_false, Bool.false_eq_true, Bool.or_false, Bool.or_true, Nat.reduceAdd, Nat.reduceSub, Nat.zero_add, decide_true, decide_false, Bool.true_and, Bool.false_and, Bool.and_true, Bool.and_false, wp_some, wp_none, wp_bind, wp_map, wp_if, binF, slF, partF, negE, y_list, y_tuple, lstF, tupF, ds_nil, ds_fz, setF, setS, appS, par2F, par3F, wp_frz, dict0, dict1, Iv.keyOf, kD, flatD, upF, revF, bltF2, swS, isiF2, lenOk_of, Nat.reduceLeDiff, b_add, b_sub, Int.reduceBEq, beq_self_eq_true, Int.reduceAdd, Int.reduceSub, f1, f2, f3, f4]
    refine wp_seq ?_
    try simp only [frzS, frzs, frz1, retF, retS, ifS, skipS, andE, orE, notE, ifE, valF, vE, vV, kE, kV', callF, ar_nil, ar_cons, dn_fz, dn_ow, dn_bag, dn_scr, d_fz, d_ow, b_of, isiF, blF, cmpF, chainF, orElse, lenS, bltF1, notT, andT, orT, tstF, l_list, l_tuple, l_all, l_listL, l_listT, l_tupL, l_tupT, l_abs, c_lt, c_le, c_gt, c_ge, c_eqI, c_neI, c_inS, c_niS, i_list, i_tuple, i_str, x_list, x_tuple, plainF, ixF, ixS, asgF, unpF, unF, setAll, List.length_cons, List.length_nil, List.map_cons, List.map_nil, if_true, if_false, List.cons_append, List.nil_append, List.append_nil, List.getElem?_cons_zero, List.getElem?_cons_succ, List.replicate, List.set_cons_zero, List.set_cons_succ, Option.bind_some, Option.map_some, Option.bind_none, Option.map_none, Bool.not_true, Bool.not_false, Bool.false_eq_true, Bool.or_false, Bool.or_true, Nat.reduceAdd, Nat.reduceSub, Nat.zero_add, decide_true, decide_false, Bool.true_and, Bool.false_and, Bool.and_true, Bool.and_false, wp_some, wp_none, wp_bind, wp_map, wp_if, binF, slF, partF, negE, y_list, y_tuple, lstF, tupF, ds_nil, ds_fz, setF, setS, appS, par2F, par3F, wp_frz, dict0, dict1, Iv.keyOf, kD, flatD, upF, revF, bltF2, swS, isiF2, lenOk_of, Nat.reduceLeDiff, b_add, b_sub, Int.reduceBEq, beq_self_eq_true, Int.reduceAdd, Int.reduceSub, f1, f2, f3, f4]
    refine wp_seq ?_
    try simp only [frzS, frzs, frz1, retF, retS, ifS, skipS, andE, orE, notE, ifE, valF, vE, vV, kE, kV', callF, ar_nil, ar_cons, dn_fz, dn_ow, dn_bag, dn_scr, d_fz, d_ow, b_of, isiF, blF, cmpF, chainF, orElse, lenS, bltF1, notT, andT, orT, tstF, l_list, l_tuple, l_all, l_listL, l_listT, l_tupL, l_tupT, l_abs, c_lt, c_le, c_gt, c_ge, c_eqI, c_neI, c_inS, c_niS, i_list, i_tuple, i_str, x_list, x_tuple, plainF, ixF, ixS, asgF, unpF, unF, setAll, List.length_cons, List.length_nil, List.map_cons, List.map_nil, if_true, if_false, List.cons_append, List.nil_append, List.append_nil, List.getElem?_cons_zero, List.getElem?_cons_succ, List.replicate, List.set_cons_zero, List.set_cons_succ, Option.bind_some, Option.map_some, Option.bind_none, Option.map_none, Bool.not_true, Bool.not_false, Bool.false_eq_true, Bool.or_false, Bool.or_true, Nat.reduceAdd, Nat.reduceSub, Nat.zero_add, decide_true, decide_false, Bool.true_and, Bool.false_and, Bool.and_true, Bool.and_false, wp_some, wp_none, wp_bind, wp_map, wp_if, binF, slF, partF, negE, y_list, y_tuple, lstF, tupF, ds_nil, ds_fz, setF, setS, appS, par2F, par3F, wp_frz, dict0, dict1, Iv.keyOf, kD, flatD, upF, revF, bltF2, swS, isiF2, lenOk_of, Nat.reduceLeDiff, b_add, b_sub, Int.reduceBEq, beq_self_eq_true, Int.reduceAdd, Int.reduceSub, f1, f2, f3, f4]
    refine wp_seq ?_
    have m2 : xs[j] ∈ xs := List.getElem_mem hj
    generalize xs[j] = y2 at hat m2
    have i1' : ixN xs.length (j : Int) = some j := ix_nat hj
    try simp only [frzS, frzs, frz1, retF, retS, ifS, skipS, andE, orE, notE, ifE, valF, vE, vV, kE, kV', callF, ar_nil, ar_cons, dn_fz, dn_ow, dn_bag, dn_scr, d_fz, d_ow, b_of, isiF, blF, cmpF, chainF, orElse, lenS, bltF1, notT, andT, orT, tstF, l_list, l_tuple, l_all, l_listL, l_listT, l_tupL, l_tupT, l_abs, c_lt, c_le, c_gt, c_ge, c_eqI, c_neI, c_inS, c_niS, i_list, i_tuple, i_str, x_list, x_tuple, plainF, ixF, ixS, asgF, unpF, unF, setAll, List.length_cons, List.length_nil, List.map_cons, List.map_nil, if_true, if_false, List.cons_append, List.nil_append, List.append_nil, List.getElem?_cons_zero, List.getElem?_cons_succ, List.replicate, List.set_cons_zero, List.set_cons_succ, Option.bind_some, Option.map_some, Option.bind_none, Option.map_none, Bool.not_true, Bool.not_false, Bool.false_eq_true, Bool.or_false, Bool.or_true, Nat.reduceAdd, Nat.reduceSub, Nat.zero_add, decide_true, decide_false, Bool.true_and, Bool.false_and, Bool.and_true, Bool.and_false, wp_some, wp_none, wp_bind, wp_map, wp_if, binF, slF, partF, negE, y_list, y_tuple, lstF, tupF, ds_nil, ds_fz, setF, setS, appS, par2F, par3F, wp_frz, dict0, dict1, Iv.keyOf, kD, flatD, upF, revF, bltF2, swS, isiF2, lenOk_of, Nat.reduceLeDiff, b_add, b_sub, Int.reduceBEq, beq_self_eq_true, Int.reduceAdd, Int.reduceSub, hat]
    refine ih y2 s1 _ (hxd y2 m2) (hxs y2 m2) b1 fun d' s2 hs2 hd2 b2 => ?_
    try simp only [frzS, frzs, frz1, retF, retS, ifS, skipS, andE, orE, notE, ifE, valF, vE, vV, kE, kV', callF, ar_nil, ar_cons, dn_fz, dn_ow, dn_bag, dn_scr, d_fz, d_ow, b_of, isiF, blF, cmpF, chainF, orElse, lenS, bltF1, notT, andT, orT, tstF, l_list, l_tuple, l_all, l_listL, l_listT, l_tupL, l_tupT, l_abs, c_lt, c_le, c_gt, c_ge, c_eqI, c_neI, c_inS, c_niS, i_list, i_tuple, i_str, x_list, x_tuple, plainF, ixF, ixS, asgF, unpF, unF, setAll, List.length_cons, List.length_nil, List.map_cons, List.map_nil, if_true, if_false, List.cons_append, List.nil_append, List.append_nil, List.getElem?_cons_zero, List.getElem?_cons_succ, List.replicate, List.set_cons_zero, List.set_cons_succ, Option.bind_some, Option.map_some, Option.bind_none, Option.map_none, Bool.not_true, Bool.not_false, Bool.false_eq_true, Bool.or_false, Bool.or_true, Nat.reduceAdd, Nat.reduceSub, Nat.zero_add, decide_true, decide_false, Bool.true_and, Bool.false_and, Bool.and_true, Bool.and_false, wp_some, wp_none, wp_bind, wp_map, wp_if, binF, slF, partF, negE, y_list, y_tuple, lstF, tupF, ds_nil, ds_fz, setF, setS, appS, par2F, par3F, wp_frz, dict0, dict1, Iv.keyOf, kD, flatD, upF, revF, bltF2, swS, isiF2, lenOk_of, Nat.reduceLeDiff, b_add, b_sub, Int.reduceBEq, beq_self_eq_true, Int.reduceAdd, Int.reduceSub, i1']
    refine fin _ _ _ s2 b2 ?_ (fun x hx => ?_) (fun x hx => ?_)
    · rw [List.length_set]; omega
    · rcases set_mem' hx with hx | rfl
      · exact hxj x hx
      · exact hs2
    · rcases set_mem' hx with hx | rfl
      · exact hxd4 x hx
      · exact hd2
theorem w_spoilt {n : Nat} (hn : n ≤ 5) : ∀ (m k : Nat) (d : D) (s : Int × Int) (Q : R × BSt → Prop), d.depth ≤ m → Sp n d → bgOk s → OutOk n (m + 4) Q → wp (tbl.F whR 60 (k + m + 3) "_law_spoilt" [.bag, .fz d] (some s)) Q := by
  intro m
  induction m using Nat.strongRecOn with
  | _ m ih =>
    intro k d s Q hd hsp hs q
    rw [show k + m + 3 = (k + m + 2) + 1 by omega, e__law_spoilt]
    refine wp_run rfl ?_
    rw [spoilt_parts]
    refine wp_seq ?_
    try simp only [frzS, frzs, frz1, retF, retS, ifS, skipS, andE, orE, notE, ifE, valF, vE, vV, kE, kV', callF, ar_nil, ar_cons, dn_fz, dn_ow, dn_bag, dn_scr, d_fz, d_ow, b_of, isiF, isD, blF, cmpF, chainF, orElse, lenS, bltF1, notT, andT, orT, tstF, l_list, l_tuple, l_all, l_listL, l_listT, l_tupL, l_tupT, l_abs, c_lt, c_le, c_gt, c_ge, c_eqI, c_neI, c_inS, c_niS, i_list, i_tuple, i_str, x_list, x_tuple, plainF, ixF, ixS, asgF, unpF, unF, setAll, List.length_cons, List.length_nil, List.map_cons, List.map_nil, if_true, if_false, List.cons_append, List.nil_append, List.append_nil, List.getElem?_cons_zero, List.getElem?_cons_succ, List.replicate, List.set_cons_zero, List.set_cons_succ, Option.bind_some, Option.map_some, Option.bind_none, Option.map_none, Bool.not_true, Bool.not_false, Bool.false_eq_true, Bool.or_false, Bool.or_true, Nat.reduceAdd, Nat.reduceSub, Nat.zero_add, decide_true, decide_false, Bool.true_and, Bool.false_and, Bool.and_true, Bool.and_false, wp_some, wp_none, wp_bind, wp_map, wp_if, binF, slF, partF, negE, y_list, y_tuple, lstF, tupF, ds_nil, ds_fz, setF, setS, appS, par2F, par3F, wp_frz, dict0, dict1, Iv.keyOf, kD, flatD, upF, revF, bltF2, swS, isiF2, lenOk_of, Nat.reduceLeDiff, b_add, b_sub, Int.reduceBEq, beq_self_eq_true, Int.reduceAdd, Int.reduceSub]
    refine w_take hs (by omega) (by omega) fun i s1 i0 i1 b1 => ?_
    show wp (seqS (spSeq (tbl.F whR 60 (k + m + 2))) (spTail (tbl.F whR 60 (k + m + 2))) [some .bag, some (.fz d), some (.fz (.int i)), none, none, none] (some s1)) (rtQ Q)
    refine wp_seq ?_
    have tl : wp (spTail (tbl.F whR 60 (k + m + 2)) [some .bag, some (.fz d), some (.fz (.int i)), none, none, none] (some s1)) (rtQ Q) := w_tail hn hd hsp i0 i1 b1 q
    have no : ∀ c : TF, c [some .bag, some (.fz d), some (.fz (.int i)), none, none, none] (some s1) = some (false, some s1) → ∀ A : SF, wp (frzS [] (ifS c A skipS) [some .bag, some (.fz d), some (.fz (.int i)), none, none, none] (some s1)) fun p => match p.1 with | .nx => wp (spTail (tbl.F whR 60 (k + m + 2)) p.2.1 p.2.2) (rtQ Q) | o => rtQ Q (o, p.2) := by
      intro c hc A
      refine wp_eq (a := (.nx, [some .bag, some (.fz d), some (.fz (.int i)), none, none, none], some s1)) ?_ tl
      show (c _ _).bind _ = _
      simp only [frzs]
      rw [hc]
      rfl
    have sq : ∀ (tb : Bool) (xs : List D), d = seqD tb xs → xs.length ≤ 20 + n → (∀ x ∈ xs, Sp n x) → wp (spSeq (tbl.F whR 60 (k + m + 2)) [some .bag, some (.fz d), some (.fz (.int i)), none, none, none] (some s1)) fun p => match p.1 with | .nx => wp (spTail (tbl.F whR 60 (k + m + 2)) p.2.1 p.2.2) (rtQ Q) | o => rtQ Q (o, p.2) := by
      intro tb xs e hxl hxs
      have e1 : (isD (seqD tb xs) .tuple || isD (seqD tb xs) .list) = true := by cases tb <;> rfl
      have e2 : blD1 .len (seqD tb xs) = some (.fz (.int xs.length)) := by cases tb <;> rfl
      have hxd : ∃ m', m = m' + 1 ∧ ∀ x ∈ xs, x.depth ≤ m' := by
        have hd' : PyData.depthAll xs + 1 ≤ m := by
          rw [e] at hd
          cases tb <;> exact hd
        exact ⟨m - 1, by omega, fun x hx => dep_mem hx (by omega)⟩
      obtain ⟨m', rfl, hxd⟩ := hxd
      by_cases hx0 : xs = []
      · subst hx0
        unfold spSeq
        refine no _ ?_ _
        subst e
        simp only [frzS, frzs, frz1, retF, retS, ifS, skipS, andE, orE, notE, ifE, valF, vE, vV, kE, kV', callF, ar_nil, ar_cons, dn_fz, dn_ow, dn_bag, dn_scr, d_fz, d_ow, b_of, isiF, blF, cmpF, chainF, orElse, lenS, bltF1, notT, andT, orT, tstF, l_list, l_tuple, l_all, l_listL, l_listT, l_tupL, l_tupT, l_abs, c_lt, c_le, c_gt, c_ge, c_eqI, c_neI, c_inS, c_niS, i_list, i_tuple, i_str, x_list, x_tuple, plainF, ixF, ixS, asgF, unpF, unF, setAll, List.length_cons, List.length_nil, List.map_cons, List.map_nil, if_true, if_false, List.cons_append, List.nil_append, List.append_nil, List.getElem?_cons_zero, List.getElem?_cons_succ, List.replicate, List.set_cons_zero, List.set_cons_succ, Option.bind_some, Option.map_some, Option.bind_none, Option.map_none, Bool.not_true, Bool.not_false, Bool.false_eq_true, Bool.or_false, Bool.or_true, Nat.reduceAdd, Nat.reduceSub, Nat.zero_add, decide_true, decide_false, Bool.true_and, Bool.false_and, Bool.and_true, Bool.and_false, wp_some, wp_none, wp_bind, wp_map, wp_if, binF, slF, partF, negE, y_list, y_tuple, lstF, tupF, ds_nil, ds_fz, setF, setS, appS, par2F, par3F, wp_frz, dict0, dict1, Iv.keyOf, kD, flatD, upF, revF, bltF2, swS, isiF2, lenOk_of, Nat.reduceLeDiff, b_add, b_sub, Int.reduceBEq, beq_self_eq_true, Int.reduceAdd, Int.reduceSub, e1, e2]
        rfl
      · by_cases hi : 0 < i
        · subst e
          have := w_seq (k := k + (m' + 1)) tb xs i s1 Q hn hx0 hxl hxd hxs hi i1 b1 (fun d s Q h1 h2 h3 h4 => ih m' (by omega) k d s Q h1 h2 h3 h4) q
          refine wp_mono this fun p hp => ?_
          obtain ⟨o, env, st⟩ := p
          cases o with
          | nx => exact hp.elim
          | _ => exact hp
        · have hl : decide ((xs.length : Int) > 0) = true := decide_eq_true (by have := List.length_pos_iff.mpr hx0; omega)
          have c2 : decide (i > 0) = false := decide_eq_false hi
          unfold spSeq
          refine no _ ?_ _
          subst e
          simp only [frzS, frzs, frz1, retF, retS, ifS, skipS, andE, orE, notE, ifE, valF, vE, vV, kE, kV', callF, ar_nil, ar_cons, dn_fz, dn_ow, dn_bag, dn_scr, d_fz, d_ow, b_of, isiF, blF, cmpF, chainF, orElse, lenS, bltF1, notT, andT, orT, tstF, l_list, l_tuple, l_all, l_listL, l_listT, l_tupL, l_tupT, l_abs, c_lt, c_le, c_gt, c_ge, c_eqI, c_neI, c_inS, c_niS, i_list, i_tuple, i_str, x_list, x_tuple, plainF, ixF, ixS, asgF, unpF, unF, setAll, List.length_cons, List.length_nil, List.map_cons, List.map_nil, if_true, if_false, List.cons_append, List.nil_append, List.append_nil, List.getElem?_cons_zero, List.getElem?_cons_succ, List.replicate, List.set_cons_zero, List.set_cons_succ, Option.bind_some, Option.map_some, Option.bind_none, Option.map_none, Bool.not_true, Bool.not_false, Bool.false_eq_true, Bool.or_false, Bool.or_true, Nat.reduceAdd, Nat.reduceSub, Nat.zero_add, decide_true, decide_false, Bool.true_and, Bool.false_and, Bool.and_true, Bool.and_false, wp_some, wp_none, wp_bind, wp_map, wp_if, binF, slF, partF, negE, y_list, y_tuple, lstF, tupF, ds_nil, ds_fz, setF, setS, appS, par2F, par3F, wp_frz, dict0, dict1, Iv.keyOf, kD, flatD, upF, revF, bltF2, swS, isiF2, lenOk_of, Nat.reduceLeDiff, b_add, b_sub, Int.reduceBEq, beq_self_eq_true, Int.reduceAdd, Int.reduceSub, e1, e2, hl, c2]
    cases hsp with
    | lst h1 h2 => exact sq false _ rfl h1 h2
    | tup h1 h2 => exact sq true _ rfl h1 h2
    | _ => exact no _ rfl _
end K01

set_option maxHeartbeats 4000000
namespace K01
open PySem PySem.Spec PyProof.Rows L2 Iv
variable {k : Nat}
/-! ### what is made is good -/
theorem sp_nat {n : Nat} (h : n ≤ 1000000) : Sp 0 (.int (n : Nat)) := .int (by omega)
theorem sp_name {z : Str} (h : z = "" ∨ z ∈ (["ann", "bo", "cy"] : List Str)) : Sp 0 (.str z) := by
  have h : z ∈ (["", "ann", "bo", "cy"] : List Str) := by simpa using h
  have all : ((["", "ann", "bo", "cy"] : List Str).all fun z => decide (z.length ≤ 17) && z.cps.toList.all fun c => decide (c < 128)) = true := by decide +kernel
  have := List.all_eq_true.mp all z h
  simp only [Bool.and_eq_true, decide_eq_true_eq, List.all_eq_true] at this
  exact .str (by omega) this.2
theorem sp_tuple {xs : List D} {m : Nat} (hl : xs.length ≤ 20) (h : ∀ x ∈ xs, Sp 0 x ∧ x.depth ≤ m) : Sp 0 (.tuple xs) ∧ (PyData.tuple xs).depth ≤ m + 1 := ⟨.tup hl fun x hx => (h x hx).1, (depth_of fun x hx => (h x hx).2).1⟩
theorem sp_list {xs : List D} {m : Nat} (hl : xs.length ≤ 20) (h : ∀ x ∈ xs, Sp 0 x ∧ x.depth ≤ m) : Sp 0 (.list xs) ∧ (PyData.list xs).depth ≤ m + 1 := ⟨.lst hl fun x hx => (h x hx).1, (depth_of fun x hx => (h x hx).2).2⟩
theorem nl_names {nl : List Str} (h : nl ∈ nls) : ∀ z ∈ nl, z ∈ (["ann", "bo", "cy"] : List Str) := by
  unfold nls at h
  intro z hz
  rcases List.mem_cons.mp h with rfl | h
  · exact hz
  · rw [List.mem_singleton.mp h] at hz
    simp only [List.mem_cons, List.not_mem_nil, or_false] at hz ⊢
    rcases hz with h | h | h <;> simp [h]
theorem sp_tubs {ts : List Tb} (g : GoodTs ts) : ∀ d ∈ ts.map Tb.d, Sp 0 d ∧ d.depth ≤ 3 := by
  intro d hd
  obtain ⟨t, ht, rfl⟩ := List.mem_map.mp hd
  obtain ⟨nl, hnl, en⟩ := g.nm
  have hn : ∀ z ∈ ts.map Tb.n, z ∈ (["ann", "bo", "cy"] : List Str) := fun z hz => nl_names hnl z (by rw [en] at hz; exact List.mem_of_mem_take hz)
  obtain ⟨j, hj⟩ := List.getElem?_of_mem ht
  have gt := g.tb j t hj
  refine sp_tuple (m := 2) (by simp) fun x hx => ?_
  simp only [List.mem_cons, List.not_mem_nil, or_false] at hx
  rcases hx with rfl | rfl | rfl
  · exact ⟨sp_name (.inr (hn _ (List.mem_map_of_mem ht))), Nat.zero_le _⟩
  · exact ⟨sp_nat (by have := gt.g1; omega), Nat.zero_le _⟩
  · refine sp_tuple (m := 1) (by rw [List.length_map]; have := gt.hs.len; omega) fun x hx => ?_
    obtain ⟨h, hh, rfl⟩ := List.mem_map.mp hx
    refine sp_tuple (m := 0) (by simp) fun x hx => ?_
    simp only [List.mem_cons, List.not_mem_nil, or_false] at hx
    rcases hx with rfl | rfl | rfl
    · exact ⟨sp_nat (by have := gt.hs.hi h hh; omega), Nat.zero_le _⟩
    · exact ⟨sp_nat (by have := gt.hs.ra h hh; omega), Nat.zero_le _⟩
    · exact ⟨sp_name ((gt.hs.to h hh).imp id fun z => hn _ (List.mem_of_mem_drop z)), Nat.zero_le _⟩
theorem sp_weather {m : Nat} {ws : List Rw} (hm : m ≤ 3) (g : GoodW m ws) : ∀ d ∈ ws.map Rw.d, Sp 0 d ∧ d.depth ≤ 3 := by
  intro d hd
  obtain ⟨w, hw, rfl⟩ := List.mem_map.mp hd
  refine sp_tuple (m := 2) (by simp) fun x hx => ?_
  simp only [List.mem_cons, List.not_mem_nil, or_false] at hx
  rcases hx with rfl | rfl
  · exact ⟨sp_nat (by have := g.hi w hw; omega), Nat.zero_le _⟩
  · have := sp_tuple (xs := w.rs.map intD) (m := 0) (by rw [List.length_map, g.rl w hw]; omega) fun x hx => by
      obtain ⟨r, hr, rfl⟩ := List.mem_map.mp hx
      exact ⟨sp_nat (by have := g.rh w hw r hr; omega), Nat.zero_le _⟩
    exact ⟨this.1, by have := this.2; omega⟩
theorem sp_beginning {xs : List Fr} (hb : ∀ x ∈ xs, x.t ≤ 1000 ∧ x.b ≤ 4) : ∀ d ∈ xs.map Fr.d, Sp 0 d ∧ d.depth ≤ 3 := by
  intro d hd
  obtain ⟨x, hx, rfl⟩ := List.mem_map.mp hd
  have := sp_tuple (xs := [PyData.int x.t, .int x.b]) (m := 0) (by simp) fun y hy => by
    simp only [List.mem_cons, List.not_mem_nil, or_false] at hy
    rcases hy with rfl | rfl
    · exact ⟨sp_nat (by have := (hb x hx).1; omega), Nat.zero_le _⟩
    · exact ⟨sp_nat (by have := (hb x hx).2; omega), Nat.zero_le _⟩
  exact ⟨this.1, Nat.le_trans this.2 (by omega)⟩
/-! ### the readers agree -/
structure Rd (d : D) : Prop where
  gd : gd d = true
  dp : d.depth ≤ 60
theorem Rd.of {n : Nat} {d : D} (hn : n ≤ 5) (h : Sp n d) (hd : d.depth ≤ 60) : Rd d := ⟨h.gd hn, hd⟩
section
variable {st : BSt} {ts : List D} {d : D}
theorem r1 (h : Rd d) : tbl.F whR 60 (k + 6) "are_tubs" [.fz d] st = some (.fz (.bool (arTb d)), st) := f_are_tubs d h.gd
theorem r2 (h : Rd d) : tbl.F whR 60 (k + 6) "_law_are_tubs" [.fz d] st = some (.fz (.bool (arTb d)), st) := f_law_are_tubs (k := k + 3) d h.gd h.dp
theorem r3 (h : Rd d) : tbl.F whR 60 (k + 6) "is_weather" [.fz (.tuple ts), .fz d] st = some (.fz (.bool (isWt ts.length d)), st) := f_is_weather (k := k + 1) ts d h.gd
theorem r4 (h : Rd d) : tbl.F whR 60 (k + 6) "_law_is_weather" [.fz (.tuple ts), .fz d] st = some (.fz (.bool (isWt ts.length d)), st) := f_law_is_weather (k := k + 3) ts d h.gd h.dp
theorem r5 (h : Rd d) : tbl.F whR 60 (k + 6) "is_beginning" [.fz (.tuple ts), .fz d] st = some (.fz (.bool (isBg ts.length d)), st) := f_is_beginning (k := k + 3) ts d h.gd
theorem r6 (h : Rd d) : tbl.F whR 60 (k + 6) "_law_is_beginning" [.fz (.tuple ts), .fz d] st = some (.fz (.bool (isBg ts.length d)), st) := f_law_is_beginning (k := k + 4) ts d h.gd
end
theorem c_neB (a b : Bool) : cmpD .NotEq (.bool a) (.bool b) = some (!(a == b)) := rfl
end K01

set_option maxHeartbeats 4000000
namespace K01
open PySem PySem.Spec PyProof.Rows L2 Iv
def four : List D := [.tuple [.str "a", .int 1, .tuple []], .tuple [.str "b", .int 1, .tuple []], .tuple [.str "c", .int 1, .tuple []], .tuple [.str "d", .int 1, .tuple []]]
theorem c_ne3 (v1 v2 v3 : Bool) : cmpD .NotEq (.list [.bool v1, .bool v2, .bool v3]) (.list [.bool v1, .bool v2, .bool v3]) = some false := by
  cases v1 <;> cases v2 <;> cases v3 <;> rfl
theorem law_runs (ns : List Int) (hns : ns.length ≤ 63) : wp (tbl.F whR 60 48 "law" [.scr ns] none) fun p => p = (.fz (.bool true), none) := by
  rw [e_law]
  refine wp_run rfl ?_
  unfold m_law
  refine wp_seq ?_
  simp only [wp_frz, frzs]
  refine wp_forI (wp_range ?_)
  try simp only [frzS, frzs, frz1, retF, retS, ifS, skipS, andE, orE, notE, ifE, valF, vE, vV, kE, kV', callF, ar_nil, ar_cons, dn_fz, dn_ow, dn_bag, dn_scr, d_fz, d_ow, b_of, isiF, isD, blF, cmpF, chainF, orElse, lenS, bltF1, notT, andT, orT, tstF, l_list, l_tuple, l_all, l_listL, l_listT, l_tupL, l_tupT, l_abs, c_lt, c_le, c_gt, c_ge, c_eqI, c_neI, c_inS, c_niS, i_list, i_tuple, i_str, x_list, x_tuple, plainF, ixF, ixS, asgF, unpF, unF, setAll, List.length_cons, List.length_nil, List.map_cons, List.map_nil, if_true, if_false, List.cons_append, List.nil_append, List.append_nil, List.getElem?_cons_zero, List.getElem?_cons_succ, List.replicate, List.set_cons_zero, List.set_cons_succ, Option.bind_some, Option.map_some, Option.bind_none, Option.map_none, Bool.not_true, Bool.not_false, Bool.false_eq_true, Bool.or_false, Bool.or_true, Nat.reduceAdd, Nat.reduceSub, Nat.zero_add, decide_true, decide_false, Bool.true_and, Bool.false_and, Bool.and_true, Bool.and_false, wp_some, wp_none, wp_bind, wp_map, wp_if, binF, slF, partF, negE, y_list, y_tuple, lstF, tupF, ds_nil, ds_fz, setF, setS, appS, par2F, par3F, wp_frz, dict0, dict1, Iv.keyOf, kD, flatD, upF, revF, bltF2, swS, isiF2, lenOk_of, Nat.reduceLeDiff, b_add, b_sub, Int.reduceBEq, beq_self_eq_true, Int.reduceAdd, Int.reduceSub, blD2]
  refine ⟨_, rfl, ?_, ?_, ?_⟩
  · split <;> omega
  · split <;> omega
  generalize hn : (1 + (if (30 : Int) < (ns.length : Int) then 30 else (ns.length : Int))).toNat = n
  have hn31 : n ≤ 31 := by rw [← hn]; split <;> omega
  refine wp_fl (fun c env st => st = none ∧ Cell ns 16 env) ⟨rfl, ⟨rfl, rfl, rfl, rfl⟩⟩ ?body ?rest
  case rest =>
    rintro env st ⟨rfl, C⟩
    refine wp_seq ?_
    try simp only [frzS, frzs, frz1, retF, retS, ifS, skipS, andE, orE, notE, ifE, valF, vE, vV, kE, kV', callF, ar_nil, ar_cons, dn_fz, dn_ow, dn_bag, dn_scr, d_fz, d_ow, b_of, isiF, isD, blF, cmpF, chainF, orElse, lenS, bltF1, notT, andT, orT, tstF, l_list, l_tuple, l_all, l_listL, l_listT, l_tupL, l_tupT, l_abs, c_lt, c_le, c_gt, c_ge, c_eqI, c_neI, c_inS, c_niS, i_list, i_tuple, i_str, x_list, x_tuple, plainF, ixF, ixS, asgF, unpF, unF, setAll, List.length_cons, List.length_nil, List.map_cons, List.map_nil, if_true, if_false, List.cons_append, List.nil_append, List.append_nil, List.getElem?_cons_zero, List.getElem?_cons_succ, List.replicate, List.set_cons_zero, List.set_cons_succ, Option.bind_some, Option.map_some, Option.bind_none, Option.map_none, Bool.not_true, Bool.not_false, Bool.false_eq_true, Bool.or_false, Bool.or_true, Nat.reduceAdd, Nat.reduceSub, Nat.zero_add, decide_true, decide_false, Bool.true_and, Bool.false_and, Bool.and_true, Bool.and_false, wp_some, wp_none, wp_bind, wp_map, wp_if, binF, slF, partF, negE, y_list, y_tuple, lstF, tupF, ds_nil, ds_fz, setF, setS, appS, par2F, par3F, wp_frz, dict0, dict1, Iv.keyOf, kD, flatD, upF, revF, bltF2, swS, isiF2, lenOk_of, Nat.reduceLeDiff, b_add, b_sub, Int.reduceBEq, beq_self_eq_true, Int.reduceAdd, Int.reduceSub]
  case body =>
    rintro c d env st hc ⟨rfl, C⟩
    obtain ⟨rfl, hcn⟩ := range_get hc
    refine ⟨_, rfl, ?_⟩
    have C1 := C.set (i := 1) (by omega) (.int (c : Nat))
    obtain ⟨s, hb, bs⟩ := f_law_bag (k := 46) ns c (by omega)
    have len1 := C1.len
    have scr1 := C1.scr
    have get1 : (env.set 1 (some (.fz (.int (c : Nat)))))[1]? = some (some (.fz (.int (c : Nat)))) := List.getElem?_set_self (by rw [C.len]; omega)
    generalize env.set 1 (some (.fz (.int (c : Nat)))) = env1 at C1 len1 scr1 get1
    refine wp_bag C1 (a := s.1) (b := s.2) ?_ ?_ (fun env' C' => ⟨rfl, C'⟩)
    · simp only [callF, ar_cons, ar_nil, vE, scr1, get1, Option.bind_some, Option.map_some, dn_scr, dn_fz]
      exact hb
    · match env1, len1, scr1, get1 with
      | [_, _, z2, z3, z4, z5, z6, z7, z8, z9, z10, z11, z12, z13, z14, z15], _, scr1, get1 =>
      cases scr1
      cases get1
      simp only [List.set_cons_zero, List.set_cons_succ]
      refine wp_seq ?_
      try simp only [frzS, frzs, frz1, retF, retS, ifS, skipS, andE, orE, notE, ifE, valF, vE, vV, kE, kV', callF, ar_nil, ar_cons, dn_fz, dn_ow, dn_bag, dn_scr, d_fz, d_ow, b_of, isiF, isD, blF, cmpF, chainF, orElse, lenS, bltF1, notT, andT, orT, tstF, l_list, l_tuple, l_all, l_listL, l_listT, l_tupL, l_tupT, l_abs, c_lt, c_le, c_gt, c_ge, c_eqI, c_neI, c_inS, c_niS, i_list, i_tuple, i_str, x_list, x_tuple, plainF, ixF, ixS, asgF, unpF, unF, setAll, List.length_cons, List.length_nil, List.map_cons, List.map_nil, if_true, if_false, List.cons_append, List.nil_append, List.append_nil, List.getElem?_cons_zero, List.getElem?_cons_succ, List.replicate, List.set_cons_zero, List.set_cons_succ, Option.bind_some, Option.map_some, Option.bind_none, Option.map_none, Bool.not_true, Bool.not_false, Bool.false_eq_true, Bool.or_false, Bool.or_true, Nat.reduceAdd, Nat.reduceSub, Nat.zero_add, decide_true, decide_false, Bool.true_and, Bool.false_and, Bool.and_true, Bool.and_false, wp_some, wp_none, wp_bind, wp_map, wp_if, binF, slF, partF, negE, y_list, y_tuple, lstF, tupF, ds_nil, ds_fz, setF, setS, appS, par2F, par3F, wp_frz, dict0, dict1, Iv.keyOf, kD, flatD, upF, revF, bltF2, swS, isiF2, lenOk_of, Nat.reduceLeDiff, b_add, b_sub, Int.reduceBEq, beq_self_eq_true, Int.reduceAdd, Int.reduceSub]
      refine w_tubs bs fun ts s1 gts b1 => ?_
      have tl := gts.len
      refine wp_seq ?_
      generalize hBD : ts.map Tb.d = BD
      try simp only [frzS, frzs, frz1, retF, retS, ifS, skipS, andE, orE, notE, ifE, valF, vE, vV, kE, kV', callF, ar_nil, ar_cons, dn_fz, dn_ow, dn_bag, dn_scr, d_fz, d_ow, b_of, isiF, isD, blF, cmpF, chainF, orElse, lenS, bltF1, notT, andT, orT, tstF, l_list, l_tuple, l_all, l_listL, l_listT, l_tupL, l_tupT, l_abs, c_lt, c_le, c_gt, c_ge, c_eqI, c_neI, c_inS, c_niS, i_list, i_tuple, i_str, x_list, x_tuple, plainF, ixF, ixS, asgF, unpF, unF, setAll, List.length_cons, List.length_nil, List.map_cons, List.map_nil, if_true, if_false, List.cons_append, List.nil_append, List.append_nil, List.getElem?_cons_zero, List.getElem?_cons_succ, List.replicate, List.set_cons_zero, List.set_cons_succ, Option.bind_some, Option.map_some, Option.bind_none, Option.map_none, Bool.not_true, Bool.not_false, Bool.false_eq_true, Bool.or_false, Bool.or_true, Nat.reduceAdd, Nat.reduceSub, Nat.zero_add, decide_true, decide_false, Bool.true_and, Bool.false_and, Bool.and_true, Bool.and_false, wp_some, wp_none, wp_bind, wp_map, wp_if, binF, slF, partF, negE, y_list, y_tuple, lstF, tupF, ds_nil, ds_fz, setF, setS, appS, par2F, par3F, wp_frz, dict0, dict1, Iv.keyOf, kD, flatD, upF, revF, bltF2, swS, isiF2, lenOk_of, Nat.reduceLeDiff, b_add, b_sub, Int.reduceBEq, beq_self_eq_true, Int.reduceAdd, Int.reduceSub]
      rw [← hBD]
      refine w_weather gts.ok tl b1 fun ws s2 gw b2 => ?_
      rw [hBD]
      try simp only [frzS, frzs, frz1, retF, retS, ifS, skipS, andE, orE, notE, ifE, valF, vE, vV, kE, kV', callF, ar_nil, ar_cons, dn_fz, dn_ow, dn_bag, dn_scr, d_fz, d_ow, b_of, isiF, isD, blF, cmpF, chainF, orElse, lenS, bltF1, notT, andT, orT, tstF, l_list, l_tuple, l_all, l_listL, l_listT, l_tupL, l_tupT, l_abs, c_lt, c_le, c_gt, c_ge, c_eqI, c_neI, c_inS, c_niS, i_list, i_tuple, i_str, x_list, x_tuple, plainF, ixF, ixS, asgF, unpF, unF, setAll, List.length_cons, List.length_nil, List.map_cons, List.map_nil, if_true, if_false, List.cons_append, List.nil_append, List.append_nil, List.getElem?_cons_zero, List.getElem?_cons_succ, List.replicate, List.set_cons_zero, List.set_cons_succ, Option.bind_some, Option.map_some, Option.bind_none, Option.map_none, Bool.not_true, Bool.not_false, Bool.false_eq_true, Bool.or_false, Bool.or_true, Nat.reduceAdd, Nat.reduceSub, Nat.zero_add, decide_true, decide_false, Bool.true_and, Bool.false_and, Bool.and_true, Bool.and_false, wp_some, wp_none, wp_bind, wp_map, wp_if, binF, slF, partF, negE, y_list, y_tuple, lstF, tupF, ds_nil, ds_fz, setF, setS, appS, par2F, par3F, wp_frz, dict0, dict1, Iv.keyOf, kD, flatD, upF, revF, bltF2, swS, isiF2, lenOk_of, Nat.reduceLeDiff, b_add, b_sub, Int.reduceBEq, beq_self_eq_true, Int.reduceAdd, Int.reduceSub]
      rw [← hBD]
      refine w_beginning gts.ok tl b2 fun xs s3 hxl hxo hxb b3 => ?_
      rw [hBD]
      have spB := sp_tubs gts
      have spW := sp_weather tl gw
      have spX := sp_beginning hxb
      have lenB : BD.length = ts.length := by rw [← hBD, List.length_map]
      have lenW : (ws.map Rw.d).length = ws.length := List.length_map ..
      have lenX : (xs.map Fr.d).length = ts.length := by rw [List.length_map, hxl]
      have wl := gw.len
      rw [hBD] at spB
      generalize ws.map Rw.d = WD at spW lenW
      generalize xs.map Fr.d = XD at spX lenX
      refine wp_seq ?_
      try simp only [frzS, frzs, frz1, retF, retS, ifS, skipS, andE, orE, notE, ifE, valF, vE, vV, kE, kV', callF, ar_nil, ar_cons, dn_fz, dn_ow, dn_bag, dn_scr, d_fz, d_ow, b_of, isiF, isD, blF, cmpF, chainF, orElse, lenS, bltF1, notT, andT, orT, tstF, l_list, l_tuple, l_all, l_listL, l_listT, l_tupL, l_tupT, l_abs, c_lt, c_le, c_gt, c_ge, c_eqI, c_neI, c_inS, c_niS, i_list, i_tuple, i_str, x_list, x_tuple, plainF, ixF, ixS, asgF, unpF, unF, setAll, List.length_cons, List.length_nil, List.map_cons, List.map_nil, if_true, if_false, List.cons_append, List.nil_append, List.append_nil, List.getElem?_cons_zero, List.getElem?_cons_succ, List.replicate, List.set_cons_zero, List.set_cons_succ, Option.bind_some, Option.map_some, Option.bind_none, Option.map_none, Bool.not_true, Bool.not_false, Bool.false_eq_true, Bool.or_false, Bool.or_true, Nat.reduceAdd, Nat.reduceSub, Nat.zero_add, decide_true, decide_false, Bool.true_and, Bool.false_and, Bool.and_true, Bool.and_false, wp_some, wp_none, wp_bind, wp_map, wp_if, binF, slF, partF, negE, y_list, y_tuple, lstF, tupF, ds_nil, ds_fz, setF, setS, appS, par2F, par3F, wp_frz, dict0, dict1, Iv.keyOf, kD, flatD, upF, revF, bltF2, swS, isiF2, lenOk_of, Nat.reduceLeDiff, b_add, b_sub, Int.reduceBEq, beq_self_eq_true, Int.reduceAdd, Int.reduceSub]
      refine w_of b3 (by simp) (by simp) fun h1 s4 m1 b4 => ?_
      try simp only [frzS, frzs, frz1, retF, retS, ifS, skipS, andE, orE, notE, ifE, valF, vE, vV, kE, kV', callF, ar_nil, ar_cons, dn_fz, dn_ow, dn_bag, dn_scr, d_fz, d_ow, b_of, isiF, isD, blF, cmpF, chainF, orElse, lenS, bltF1, notT, andT, orT, tstF, l_list, l_tuple, l_all, l_listL, l_listT, l_tupL, l_tupT, l_abs, c_lt, c_le, c_gt, c_ge, c_eqI, c_neI, c_inS, c_niS, i_list, i_tuple, i_str, x_list, x_tuple, plainF, ixF, ixS, asgF, unpF, unF, setAll, List.length_cons, List.length_nil, List.map_cons, List.map_nil, if_true, if_false, List.cons_append, List.nil_append, List.append_nil, List.getElem?_cons_zero, List.getElem?_cons_succ, List.replicate, List.set_cons_zero, List.set_cons_succ, Option.bind_some, Option.map_some, Option.bind_none, Option.map_none, Bool.not_true, Bool.not_false, Bool.false_eq_true, Bool.or_false, Bool.or_true, Nat.reduceAdd, Nat.reduceSub, Nat.zero_add, decide_true, decide_false, Bool.true_and, Bool.false_and, Bool.and_true, Bool.and_false, wp_some, wp_none, wp_bind, wp_map, wp_if, binF, slF, partF, negE, y_list, y_tuple, lstF, tupF, ds_nil, ds_fz, setF, setS, appS, par2F, par3F, wp_frz, dict0, dict1, Iv.keyOf, kD, flatD, upF, revF, bltF2, swS, isiF2, lenOk_of, Nat.reduceLeDiff, b_add, b_sub, Int.reduceBEq, beq_self_eq_true, Int.reduceAdd, Int.reduceSub]
      refine w_of b4 (by simp) (by simp) fun h2 s5 m2 b5 => ?_
      try simp only [frzS, frzs, frz1, retF, retS, ifS, skipS, andE, orE, notE, ifE, valF, vE, vV, kE, kV', callF, ar_nil, ar_cons, dn_fz, dn_ow, dn_bag, dn_scr, d_fz, d_ow, b_of, isiF, isD, blF, cmpF, chainF, orElse, lenS, bltF1, notT, andT, orT, tstF, l_list, l_tuple, l_all, l_listL, l_listT, l_tupL, l_tupT, l_abs, c_lt, c_le, c_gt, c_ge, c_eqI, c_neI, c_inS, c_niS, i_list, i_tuple, i_str, x_list, x_tuple, plainF, ixF, ixS, asgF, unpF, unF, setAll, List.length_cons, List.length_nil, List.map_cons, List.map_nil, if_true, if_false, List.cons_append, List.nil_append, List.append_nil, List.getElem?_cons_zero, List.getElem?_cons_succ, List.replicate, List.set_cons_zero, List.set_cons_succ, Option.bind_some, Option.map_some, Option.bind_none, Option.map_none, Bool.not_true, Bool.not_false, Bool.false_eq_true, Bool.or_false, Bool.or_true, Nat.reduceAdd, Nat.reduceSub, Nat.zero_add, decide_true, decide_false, Bool.true_and, Bool.false_and, Bool.and_true, Bool.and_false, wp_some, wp_none, wp_bind, wp_map, wp_if, binF, slF, partF, negE, y_list, y_tuple, lstF, tupF, ds_nil, ds_fz, setF, setS, appS, par2F, par3F, wp_frz, dict0, dict1, Iv.keyOf, kD, flatD, upF, revF, bltF2, swS, isiF2, lenOk_of, Nat.reduceLeDiff, b_add, b_sub, Int.reduceBEq, beq_self_eq_true, Int.reduceAdd, Int.reduceSub]
      refine w_of b5 (by simp) (by simp) fun h3 s6 m3 b6 => ?_
      try simp only [frzS, frzs, frz1, retF, retS, ifS, skipS, andE, orE, notE, ifE, valF, vE, vV, kE, kV', callF, ar_nil, ar_cons, dn_fz, dn_ow, dn_bag, dn_scr, d_fz, d_ow, b_of, isiF, isD, blF, cmpF, chainF, orElse, lenS, bltF1, notT, andT, orT, tstF, l_list, l_tuple, l_all, l_listL, l_listT, l_tupL, l_tupT, l_abs, c_lt, c_le, c_gt, c_ge, c_eqI, c_neI, c_inS, c_niS, i_list, i_tuple, i_str, x_list, x_tuple, plainF, ixF, ixS, asgF, unpF, unF, setAll, List.length_cons, List.length_nil, List.map_cons, List.map_nil, if_true, if_false, List.cons_append, List.nil_append, List.append_nil, List.getElem?_cons_zero, List.getElem?_cons_succ, List.replicate, List.set_cons_zero, List.set_cons_succ, Option.bind_some, Option.map_some, Option.bind_none, Option.map_none, Bool.not_true, Bool.not_false, Bool.false_eq_true, Bool.or_false, Bool.or_true, Nat.reduceAdd, Nat.reduceSub, Nat.zero_add, decide_true, decide_false, Bool.true_and, Bool.false_and, Bool.and_true, Bool.and_false, wp_some, wp_none, wp_bind, wp_map, wp_if, binF, slF, partF, negE, y_list, y_tuple, lstF, tupF, ds_nil, ds_fz, setF, setS, appS, par2F, par3F, wp_frz, dict0, dict1, Iv.keyOf, kD, flatD, upF, revF, bltF2, swS, isiF2, lenOk_of, Nat.reduceLeDiff, b_add, b_sub, Int.reduceBEq, beq_self_eq_true, Int.reduceAdd, Int.reduceSub]
      refine wp_seq ?_
      try simp only [frzS, frzs, frz1, retF, retS, ifS, skipS, andE, orE, notE, ifE, valF, vE, vV, kE, kV', callF, ar_nil, ar_cons, dn_fz, dn_ow, dn_bag, dn_scr, d_fz, d_ow, b_of, isiF, isD, blF, cmpF, chainF, orElse, lenS, bltF1, notT, andT, orT, tstF, l_list, l_tuple, l_all, l_listL, l_listT, l_tupL, l_tupT, l_abs, c_lt, c_le, c_gt, c_ge, c_eqI, c_neI, c_inS, c_niS, i_list, i_tuple, i_str, x_list, x_tuple, plainF, ixF, ixS, asgF, unpF, unF, setAll, List.length_cons, List.length_nil, List.map_cons, List.map_nil, if_true, if_false, List.cons_append, List.nil_append, List.append_nil, List.getElem?_cons_zero, List.getElem?_cons_succ, List.replicate, List.set_cons_zero, List.set_cons_succ, Option.bind_some, Option.map_some, Option.bind_none, Option.map_none, Bool.not_true, Bool.not_false, Bool.false_eq_true, Bool.or_false, Bool.or_true, Nat.reduceAdd, Nat.reduceSub, Nat.zero_add, decide_true, decide_false, Bool.true_and, Bool.false_and, Bool.and_true, Bool.and_false, wp_some, wp_none, wp_bind, wp_map, wp_if, binF, slF, partF, negE, y_list, y_tuple, lstF, tupF, ds_nil, ds_fz, setF, setS, appS, par2F, par3F, wp_frz, dict0, dict1, Iv.keyOf, kD, flatD, upF, revF, bltF2, swS, isiF2, lenOk_of, Nat.reduceLeDiff, b_add, b_sub, Int.reduceBEq, beq_self_eq_true, Int.reduceAdd, Int.reduceSub]
      refine w_of b6 (by simp) (by simp) fun h4 s7 m4 b7 => ?_
      try simp only [frzS, frzs, frz1, retF, retS, ifS, skipS, andE, orE, notE, ifE, valF, vE, vV, kE, kV', callF, ar_nil, ar_cons, dn_fz, dn_ow, dn_bag, dn_scr, d_fz, d_ow, b_of, isiF, isD, blF, cmpF, chainF, orElse, lenS, bltF1, notT, andT, orT, tstF, l_list, l_tuple, l_all, l_listL, l_listT, l_tupL, l_tupT, l_abs, c_lt, c_le, c_gt, c_ge, c_eqI, c_neI, c_inS, c_niS, i_list, i_tuple, i_str, x_list, x_tuple, plainF, ixF, ixS, asgF, unpF, unF, setAll, List.length_cons, List.length_nil, List.map_cons, List.map_nil, if_true, if_false, List.cons_append, List.nil_append, List.append_nil, List.getElem?_cons_zero, List.getElem?_cons_succ, List.replicate, List.set_cons_zero, List.set_cons_succ, Option.bind_some, Option.map_some, Option.bind_none, Option.map_none, Bool.not_true, Bool.not_false, Bool.false_eq_true, Bool.or_false, Bool.or_true, Nat.reduceAdd, Nat.reduceSub, Nat.zero_add, decide_true, decide_false, Bool.true_and, Bool.false_and, Bool.and_true, Bool.and_false, wp_some, wp_none, wp_bind, wp_map, wp_if, binF, slF, partF, negE, y_list, y_tuple, lstF, tupF, ds_nil, ds_fz, setF, setS, appS, par2F, par3F, wp_frz, dict0, dict1, Iv.keyOf, kD, flatD, upF, revF, bltF2, swS, isiF2, lenOk_of, Nat.reduceLeDiff, b_add, b_sub, Int.reduceBEq, beq_self_eq_true, Int.reduceAdd, Int.reduceSub]
      refine wp_seq ?_
      refine wp_eq (a := (.nx, [some (.scr ns), some (.fz (.int (c : Nat))), some .bag, some (.fz (.tuple BD)), some (.fz (.tuple BD)), some (.fz (.tuple WD)), some (.fz (.tuple XD)), some (.fz (.tuple [h1, h2, h3])), some (.fz (.tuple [.tuple [.str "ann", h4, .tuple [.tuple [h1, h2, h3]]], .tuple [.str "bo", .int 1, .tuple []]])), some (.fz (.tuple four)), z10, z11, z12, z13, z14, z15], some s7)) (by rfl) ?_
      have wp1 : 1 ≤ WD.length := by rw [lenW]; exact gw.pos
      -- the things to be told of
      have okH : Sp 0 (.tuple [h1, h2, h3]) ∧ (PyData.tuple [h1, h2, h3]).depth ≤ 1 := sp_tuple (m := 0) (by simp) fun x hx => by
        simp only [List.mem_cons, List.not_mem_nil, or_false] at hx m1 m2 m3
        rcases hx with rfl | rfl | rfl
        · rcases m1 with rfl | rfl | rfl <;> exact ⟨.int (by decide), Nat.zero_le _⟩
        · rcases m2 with rfl | rfl | rfl | rfl <;> exact ⟨.int (by decide), Nat.zero_le _⟩
        · rcases m3 with rfl | rfl | rfl <;> exact ⟨sp_name (by simp), Nat.zero_le _⟩
      have okE : Sp 0 (.tuple [.tuple [.str "ann", h4, .tuple [.tuple [h1, h2, h3]]], .tuple [.str "bo", .int 1, .tuple []]]) ∧ (PyData.tuple [.tuple [.str "ann", h4, .tuple [.tuple [h1, h2, h3]]], .tuple [.str "bo", .int 1, .tuple []]]).depth ≤ 4 := sp_tuple (m := 3) (by simp) fun x hx => by
        simp only [List.mem_cons, List.not_mem_nil, or_false] at hx m4
        rcases hx with rfl | rfl
        · refine sp_tuple (m := 2) (by simp) fun x hx => ?_
          simp only [List.mem_cons, List.not_mem_nil, or_false] at hx
          rcases hx with rfl | rfl | rfl
          · exact ⟨sp_name (by simp), Nat.zero_le _⟩
          · rcases m4 with rfl | rfl | rfl | rfl <;> exact ⟨.int (by decide), Nat.zero_le _⟩
          · exact sp_tuple (m := 1) (by simp) fun x hx => by rw [List.mem_singleton.mp hx]; exact okH
        · refine sp_tuple (m := 2) (by simp) fun x hx => ?_
          simp only [List.mem_cons, List.not_mem_nil, or_false] at hx
          rcases hx with rfl | rfl | rfl
          · exact ⟨sp_name (by simp), Nat.zero_le _⟩
          · exact ⟨.int (by decide), Nat.zero_le _⟩
          · have := sp_tuple (xs := []) (m := 0) (by simp) fun x hx => by cases hx
            exact ⟨this.1, by have := this.2; omega⟩
      have okF : ∀ x ∈ four, Sp 0 x ∧ x.depth ≤ 3 := fun x hx => by
        have h1 : ∀ c : Nat, c < 128 → Sp 0 (.str ⟨#[c]⟩) := fun c hc => .str (by show 1 ≤ _; omega) (fun d hd => by
          have : d = c := by simpa using hd
          omega)
        have h2 : ∀ c : Nat, c < 128 → Sp 0 (.tuple [.str ⟨#[c]⟩, .int 1, .tuple []]) ∧ (PyData.tuple [.str ⟨#[c]⟩, .int 1, .tuple []]).depth ≤ 3 := fun c hc => sp_tuple (m := 2) (by simp) fun x hx => by
          simp only [List.mem_cons, List.not_mem_nil, or_false] at hx
          rcases hx with rfl | rfl | rfl
          · exact ⟨h1 c hc, Nat.zero_le _⟩
          · exact ⟨.int (by decide), Nat.zero_le _⟩
          · have := sp_tuple (xs := []) (m := 0) (by simp) fun x hx => by cases hx
            exact ⟨this.1, by have := this.2; omega⟩
        unfold four at hx
        simp only [List.mem_cons, List.not_mem_nil, or_false] at hx
        rcases hx with rfl | rfl | rfl | rfl
        · exact h2 97 (by omega)
        · exact h2 98 (by omega)
        · exact h2 99 (by omega)
        · exact h2 100 (by omega)
      generalize PyData.tuple [.tuple [.str "ann", h4, .tuple [.tuple [h1, h2, h3]]], .tuple [.str "bo", .int 1, .tuple []]] = ED at okE
      generalize PyData.tuple [h1, h2, h3] = HD
      have lf : four.length = 4 := rfl
      generalize four = FD at okF lf
      have cutl := fun (xs : List D) lo hi => len_cut_le xs lo hi
      have a1 := b_addT (xs := BD) (ys := cutL BD (some (-1)) none) (by have := cutl BD (some (-1)) none; omega)
      have a2 := b_addT (xs := WD) (ys := WD) (by omega)
      have t1 : (cutL WD none (some 1)).length = 1 := by
        have := cut_take WD 1
        rw [show ((1 : Nat) : Int) = 1 from rfl] at this
        rw [this, List.length_take]; omega
      have a3 : binD .Mult (.tuple (cutL WD none (some 1))) (.int 5) = some (.fz (.tuple (List.replicate 5 (cutL WD none (some 1))).flatten)) := by
        show (if repOk _ _ then _ else none) = _
        rw [t1]
        rfl
      have lR : (List.replicate 5 (cutL WD none (some 1))).flatten.length ≤ 5 := by
        rw [List.length_flatten, List.map_replicate, t1]
        decide
      have mR : ∀ x ∈ (List.replicate 5 (cutL WD none (some 1))).flatten, x ∈ WD := fun x hx => by
        obtain ⟨l, hl, hx⟩ := List.mem_flatten.mp hx
        rw [(List.mem_replicate.mp hl).2] at hx
        exact mem_cut hx
      generalize (List.replicate 5 (cutL WD none (some 1))).flatten = RD at a3 lR mR
      refine wp_seq ?_
      try simp only [frzS, frzs, frz1, retF, retS, ifS, skipS, andE, orE, notE, ifE, valF, vE, vV, kE, kV', callF, ar_nil, ar_cons, dn_fz, dn_ow, dn_bag, dn_scr, d_fz, d_ow, b_of, isiF, isD, blF, cmpF, chainF, orElse, lenS, bltF1, notT, andT, orT, tstF, l_list, l_tuple, l_all, l_listL, l_listT, l_tupL, l_tupT, l_abs, c_lt, c_le, c_gt, c_ge, c_eqI, c_neI, c_inS, c_niS, i_list, i_tuple, i_str, x_list, x_tuple, plainF, ixF, ixS, asgF, unpF, unF, setAll, List.length_cons, List.length_nil, List.map_cons, List.map_nil, if_true, if_false, List.cons_append, List.nil_append, List.append_nil, List.getElem?_cons_zero, List.getElem?_cons_succ, List.replicate, List.set_cons_zero, List.set_cons_succ, Option.bind_some, Option.map_some, Option.bind_none, Option.map_none, Bool.not_true, Bool.not_false, Bool.false_eq_true, Bool.or_false, Bool.or_true, Nat.reduceAdd, Nat.reduceSub, Nat.zero_add, decide_true, decide_false, Bool.true_and, Bool.false_and, Bool.and_true, Bool.and_false, wp_some, wp_none, wp_bind, wp_map, wp_if, binF, slF, partF, negE, y_list, y_tuple, lstF, tupF, ds_nil, ds_fz, setF, setS, appS, par2F, par3F, wp_frz, dict0, dict1, Iv.keyOf, kD, flatD, upF, revF, bltF2, swS, isiF2, lenOk_of, Nat.reduceLeDiff, b_add, b_sub, Int.reduceBEq, beq_self_eq_true, Int.reduceAdd, Int.reduceSub, a1, a2, a3]
      refine wp_seq ?_
      have okL : ∀ x ∈ [PyData.tuple FD, .tuple (cutL FD none (some 3)), ED, .tuple BD.reverse, .tuple (BD ++ cutL BD (some (-1)) none), .list BD, .tuple (WD ++ WD), .tuple (cutL WD (some 1) none), .tuple RD], Sp 0 x ∧ x.depth ≤ 4 := by
        intro x hx
        simp only [List.mem_cons, List.not_mem_nil, or_false] at hx
        rcases hx with rfl | rfl | rfl | rfl | rfl | rfl | rfl | rfl | rfl
        · exact sp_tuple (by omega) okF
        · exact sp_tuple (by have := cutl FD none (some 3); omega) fun x hx => okF x (mem_cut hx)
        · exact okE
        · exact sp_tuple (by rw [List.length_reverse]; omega) fun x hx => spB x (List.mem_reverse.mp hx)
        · exact sp_tuple (by rw [List.length_append]; have := cutl BD (some (-1)) none; omega) fun x hx => (List.mem_append.mp hx).elim (spB x) fun hx => spB x (mem_cut hx)
        · exact sp_list (by omega) spB
        · exact sp_tuple (by rw [List.length_append]; omega) fun x hx => (List.mem_append.mp hx).elim (spW x) (spW x)
        · exact sp_tuple (by have := cutl WD (some 1) none; omega) fun x hx => spW x (mem_cut hx)
        · exact sp_tuple (by omega) fun x hx => spW x (mR x hx)
      have lL : [PyData.tuple FD, .tuple (cutL FD none (some 3)), ED, .tuple BD.reverse, .tuple (BD ++ cutL BD (some (-1)) none), .list BD, .tuple (WD ++ WD), .tuple (cutL WD (some 1) none), .tuple RD].length = 9 := rfl
      generalize [PyData.tuple FD, .tuple (cutL FD none (some 3)), ED, .tuple BD.reverse, .tuple (BD ++ cutL BD (some (-1)) none), .list BD, .tuple (WD ++ WD), .tuple (cutL WD (some 1) none), .tuple RD] = LD at okL lL
      simp only [wp_frz, frzs, frz1, List.getElem?_cons_zero, List.getElem?_cons_succ, List.set_cons_zero, List.set_cons_succ]
      refine wp_forI ?_
      try simp only [frzS, frzs, frz1, retF, retS, ifS, skipS, andE, orE, notE, ifE, valF, vE, vV, kE, kV', callF, ar_nil, ar_cons, dn_fz, dn_ow, dn_bag, dn_scr, d_fz, d_ow, b_of, isiF, isD, blF, cmpF, chainF, orElse, lenS, bltF1, notT, andT, orT, tstF, l_list, l_tuple, l_all, l_listL, l_listT, l_tupL, l_tupT, l_abs, c_lt, c_le, c_gt, c_ge, c_eqI, c_neI, c_inS, c_niS, i_list, i_tuple, i_str, x_list, x_tuple, plainF, ixF, ixS, asgF, unpF, unF, setAll, List.length_cons, List.length_nil, List.map_cons, List.map_nil, if_true, if_false, List.cons_append, List.nil_append, List.append_nil, List.getElem?_cons_zero, List.getElem?_cons_succ, List.replicate, List.set_cons_zero, List.set_cons_succ, Option.bind_some, Option.map_some, Option.bind_none, Option.map_none, Bool.not_true, Bool.not_false, Bool.false_eq_true, Bool.or_false, Bool.or_true, Nat.reduceAdd, Nat.reduceSub, Nat.zero_add, decide_true, decide_false, Bool.true_and, Bool.false_and, Bool.and_true, Bool.and_false, wp_some, wp_none, wp_bind, wp_map, wp_if, binF, slF, partF, negE, y_list, y_tuple, lstF, tupF, ds_nil, ds_fz, setF, setS, appS, par2F, par3F, wp_frz, dict0, dict1, Iv.keyOf, kD, flatD, upF, revF, bltF2, swS, isiF2, lenOk_of, Nat.reduceLeDiff, b_add, b_sub, Int.reduceBEq, beq_self_eq_true, Int.reduceAdd, Int.reduceSub]
      refine w_odd b7 fun o s8 ho hod b8 => ?_
      have a4 := b_addL (xs := LD) (ys := [o, .tuple []]) (by rw [lL]; simp)
      try simp only [frzS, frzs, frz1, retF, retS, ifS, skipS, andE, orE, notE, ifE, valF, vE, vV, kE, kV', callF, ar_nil, ar_cons, dn_fz, dn_ow, dn_bag, dn_scr, d_fz, d_ow, b_of, isiF, isD, blF, cmpF, chainF, orElse, lenS, bltF1, notT, andT, orT, tstF, l_list, l_tuple, l_all, l_listL, l_listT, l_tupL, l_tupT, l_abs, c_lt, c_le, c_gt, c_ge, c_eqI, c_neI, c_inS, c_niS, i_list, i_tuple, i_str, x_list, x_tuple, plainF, ixF, ixS, asgF, unpF, unF, setAll, List.length_cons, List.length_nil, List.map_cons, List.map_nil, if_true, if_false, List.cons_append, List.nil_append, List.append_nil, List.getElem?_cons_zero, List.getElem?_cons_succ, List.replicate, List.set_cons_zero, List.set_cons_succ, Option.bind_some, Option.map_some, Option.bind_none, Option.map_none, Bool.not_true, Bool.not_false, Bool.false_eq_true, Bool.or_false, Bool.or_true, Nat.reduceAdd, Nat.reduceSub, Nat.zero_add, decide_true, decide_false, Bool.true_and, Bool.false_and, Bool.and_true, Bool.and_false, wp_some, wp_none, wp_bind, wp_map, wp_if, binF, slF, partF, negE, y_list, y_tuple, lstF, tupF, ds_nil, ds_fz, setF, setS, appS, par2F, par3F, wp_frz, dict0, dict1, Iv.keyOf, kD, flatD, upF, revF, bltF2, swS, isiF2, lenOk_of, Nat.reduceLeDiff, b_add, b_sub, Int.reduceBEq, beq_self_eq_true, Int.reduceAdd, Int.reduceSub, a4]
      have okL2 : ∀ x ∈ LD ++ [o, .tuple []], Rd x := fun x hx => by
        rcases List.mem_append.mp hx with hx | hx
        · have := okL x hx
          exact Rd.of (n := 0) (by omega) this.1 (by omega)
        · simp only [List.mem_cons, List.not_mem_nil, or_false] at hx
          rcases hx with rfl | rfl
          · exact Rd.of (n := 0) (by omega) ho (by omega)
          · exact ⟨rfl, by decide⟩
      generalize LD ++ [o, .tuple []] = LE at okL2
      refine wp_fl (fun c' env st => st = some s8 ∧ ∃ z12, env = [some (.scr ns), some (.fz (.int (c : Nat))), some .bag, some (.fz (.tuple BD)), some (.fz (.tuple BD)), some (.fz (.tuple WD)), some (.fz (.tuple XD)), some (.fz HD), some (.fz ED), some (.fz (.tuple FD)), z10, some (.ow (.list LD)), z12, z13, z14, z15]) ⟨rfl, _, rfl⟩ ?b1 ?r1
      case b1 =>
        rintro c' d env st hd ⟨rfl, z12, rfl⟩
        have rd := okL2 d (List.mem_of_getElem? hd)
        refine ⟨_, rfl, ?_⟩
        have q1 := r1 (k := 41) (st := some s8) rd
        have q2 := r2 (k := 41) (st := some s8) rd
        have q3 := r3 (k := 41) (st := some s8) (ts := BD) rd
        have q4 := r4 (k := 41) (st := some s8) (ts := BD) rd
        have q5 := r5 (k := 41) (st := some s8) (ts := BD) rd
        have q6 := r6 (k := 41) (st := some s8) (ts := BD) rd
        simp only [Nat.reduceAdd] at q1 q2 q3 q4 q5 q6
        refine wp_seq ?_
        try simp only [frzS, frzs, frz1, retF, retS, ifS, skipS, andE, orE, notE, ifE, valF, vE, vV, kE, kV', callF, ar_nil, ar_cons, dn_fz, dn_ow, dn_bag, dn_scr, d_fz, d_ow, b_of, isiF, isD, blF, cmpF, chainF, orElse, lenS, bltF1, notT, andT, orT, tstF, l_list, l_tuple, l_all, l_listL, l_listT, l_tupL, l_tupT, l_abs, c_lt, c_le, c_gt, c_ge, c_eqI, c_neI, c_inS, c_niS, i_list, i_tuple, i_str, x_list, x_tuple, plainF, ixF, ixS, asgF, unpF, unF, setAll, List.length_cons, List.length_nil, List.map_cons, List.map_nil, if_true, if_false, List.cons_append, List.nil_append, List.append_nil, List.getElem?_cons_zero, List.getElem?_cons_succ, List.replicate, List.set_cons_zero, List.set_cons_succ, Option.bind_some, Option.map_some, Option.bind_none, Option.map_none, Bool.not_true, Bool.not_false, Bool.false_eq_true, Bool.or_false, Bool.or_true, Nat.reduceAdd, Nat.reduceSub, Nat.zero_add, decide_true, decide_false, Bool.true_and, Bool.false_and, Bool.and_true, Bool.and_false, wp_some, wp_none, wp_bind, wp_map, wp_if, binF, slF, partF, negE, y_list, y_tuple, lstF, tupF, ds_nil, ds_fz, setF, setS, appS, par2F, par3F, wp_frz, dict0, dict1, Iv.keyOf, kD, flatD, upF, revF, bltF2, swS, isiF2, lenOk_of, Nat.reduceLeDiff, b_add, b_sub, Int.reduceBEq, beq_self_eq_true, Int.reduceAdd, Int.reduceSub, q1, q2, q3, q4, c_neB]
        refine wp_seq ?_
        try simp only [frzS, frzs, frz1, retF, retS, ifS, skipS, andE, orE, notE, ifE, valF, vE, vV, kE, kV', callF, ar_nil, ar_cons, dn_fz, dn_ow, dn_bag, dn_scr, d_fz, d_ow, b_of, isiF, isD, blF, cmpF, chainF, orElse, lenS, bltF1, notT, andT, orT, tstF, l_list, l_tuple, l_all, l_listL, l_listT, l_tupL, l_tupT, l_abs, c_lt, c_le, c_gt, c_ge, c_eqI, c_neI, c_inS, c_niS, i_list, i_tuple, i_str, x_list, x_tuple, plainF, ixF, ixS, asgF, unpF, unF, setAll, List.length_cons, List.length_nil, List.map_cons, List.map_nil, if_true, if_false, List.cons_append, List.nil_append, List.append_nil, List.getElem?_cons_zero, List.getElem?_cons_succ, List.replicate, List.set_cons_zero, List.set_cons_succ, Option.bind_some, Option.map_some, Option.bind_none, Option.map_none, Bool.not_true, Bool.not_false, Bool.false_eq_true, Bool.or_false, Bool.or_true, Nat.reduceAdd, Nat.reduceSub, Nat.zero_add, decide_true, decide_false, Bool.true_and, Bool.false_and, Bool.and_true, Bool.and_false, wp_some, wp_none, wp_bind, wp_map, wp_if, binF, slF, partF, negE, y_list, y_tuple, lstF, tupF, ds_nil, ds_fz, setF, setS, appS, par2F, par3F, wp_frz, dict0, dict1, Iv.keyOf, kD, flatD, upF, revF, bltF2, swS, isiF2, lenOk_of, Nat.reduceLeDiff, b_add, b_sub, Int.reduceBEq, beq_self_eq_true, Int.reduceAdd, Int.reduceSub, q5, q6, c_neB]
        exact ⟨by trivial, _, rfl⟩
      case r1 =>
        rintro env st ⟨rfl, z12, rfl⟩
        refine wp_seq ?_
        simp only [wp_frz, frzs]
        have sB0 : Sp 0 (.tuple BD) ∧ (PyData.tuple BD).depth ≤ 4 := sp_tuple (by omega) spB
        have sW0 : Sp 0 (.tuple WD) ∧ (PyData.tuple WD).depth ≤ 4 := sp_tuple (by omega) spW
        have sX0 : Sp 0 (.tuple XD) ∧ (PyData.tuple XD).depth ≤ 4 := sp_tuple (by omega) spX
        refine wp_for (ds := rangeD 6) (st1 := some s8) (I := fun c' env st => ∃ (s : Int × Int) (d1 d2 d3 : D) (z12 z13 z14 z15 : Option R), bgOk s ∧ st = some s ∧ env = [some (.scr ns), some (.fz (.int (c : Nat))), some .bag, some (.fz (.tuple BD)), some (.fz d1), some (.fz d2), some (.fz d3), some (.fz HD), some (.fz ED), some (.fz (.tuple FD)), z10, some (.ow (.list LD)), z12, z13, z14, z15] ∧ (Sp c' d1 ∧ d1.depth ≤ 4 + 4 * c') ∧ (Sp c' d2 ∧ d2.depth ≤ 4 + 4 * c') ∧ (Sp c' d3 ∧ d3.depth ≤ 4 + 4 * c')) rfl ⟨s8, _, _, _, _, _, _, _, b8, rfl, rfl, sB0, sW0, sX0⟩ ?b2 ?r2
        case r2 =>
          rintro env st ⟨s9, d1, d2, d3, z12, z13, z14, z15, b9, rfl, rfl, _⟩
          refine wp_eq rfl ?_
          exact ⟨rfl, rfl, rfl⟩
        case b2 =>
          rintro c' d env st hd ⟨s9, d1, d2, d3, z12, z13, z14, z15, b9, rfl, rfl, ⟨p1, e1⟩, ⟨p2, e2⟩, ⟨p3, e3⟩⟩
          have hc6 := (range_get hd).2
          have rd1 : Rd d1 := Rd.of (by omega) p1 (by omega)
          have rd2 : Rd d2 := Rd.of (by omega) p2 (by omega)
          have rd3 : Rd d3 := Rd.of (by omega) p3 (by omega)
          have q1 := r1 (k := 41) (st := some s9) rd1
          have q2 := r2 (k := 41) (st := some s9) rd1
          have q3 := r3 (k := 41) (st := some s9) (ts := BD) rd2
          have q4 := r4 (k := 41) (st := some s9) (ts := BD) rd2
          have q5 := r5 (k := 41) (st := some s9) (ts := BD) rd3
          have q6 := r6 (k := 41) (st := some s9) (ts := BD) rd3
          simp only [Nat.reduceAdd] at q1 q2 q3 q4 q5 q6
          generalize arTb d1 = v1 at q1 q2
          generalize isWt BD.length d2 = v2 at q3 q4
          generalize isBg BD.length d3 = v3 at q5 q6
          refine ⟨_, rfl, ?_⟩
          refine wp_seq ?_
          try simp only [frzS, frzs, frz1, retF, retS, ifS, skipS, andE, orE, notE, ifE, valF, vE, vV, kE, kV', callF, ar_nil, ar_cons, dn_fz, dn_ow, dn_bag, dn_scr, d_fz, d_ow, b_of, isiF, isD, blF, cmpF, chainF, orElse, lenS, bltF1, notT, andT, orT, tstF, l_list, l_tuple, l_all, l_listL, l_listT, l_tupL, l_tupT, l_abs, c_lt, c_le, c_gt, c_ge, c_eqI, c_neI, c_inS, c_niS, i_list, i_tuple, i_str, x_list, x_tuple, plainF, ixF, ixS, asgF, unpF, unF, setAll, List.length_cons, List.length_nil, List.map_cons, List.map_nil, if_true, if_false, List.cons_append, List.nil_append, List.append_nil, List.getElem?_cons_zero, List.getElem?_cons_succ, List.replicate, List.set_cons_zero, List.set_cons_succ, Option.bind_some, Option.map_some, Option.bind_none, Option.map_none, Bool.not_true, Bool.not_false, Bool.false_eq_true, Bool.or_false, Bool.or_true, Nat.reduceAdd, Nat.reduceSub, Nat.zero_add, decide_true, decide_false, Bool.true_and, Bool.false_and, Bool.and_true, Bool.and_false, wp_some, wp_none, wp_bind, wp_map, wp_if, binF, slF, partF, negE, y_list, y_tuple, lstF, tupF, ds_nil, ds_fz, setF, setS, appS, par2F, par3F, wp_frz, dict0, dict1, Iv.keyOf, kD, flatD, upF, revF, bltF2, swS, isiF2, lenOk_of, Nat.reduceLeDiff, b_add, b_sub, Int.reduceBEq, beq_self_eq_true, Int.reduceAdd, Int.reduceSub, q1, q3, q5]
          refine wp_seq ?_
          have l0 : ∀ (z : Option R), lcF (plainF (vE 14)) [15] (setF 15) (notT (tstF (valF (isiF .bool (vV 15))))) (vE 15) [some (.scr ns), some (.fz (.int (c : Nat))), some .bag, some (.fz (.tuple BD)), some (.fz d1), some (.fz d2), some (.fz d3), some (.fz HD), some (.fz ED), some (.fz (.tuple FD)), z10, some (.ow (.list LD)), z12, z, some (.fz (.list [.bool v1, .bool v2, .bool v3])), z15] (some s9) = some (.ow (.list []), some s9) := fun z => rfl
          have c0 : cmpD .NotEq (.list []) (.list []) = some false := rfl
          have c3 := c_ne3 v1 v2 v3
          try simp only [frzS, frzs, frz1, retF, retS, ifS, skipS, andE, orE, notE, ifE, valF, vE, vV, kE, kV', callF, ar_nil, ar_cons, dn_fz, dn_ow, dn_bag, dn_scr, d_fz, d_ow, b_of, isiF, isD, blF, cmpF, chainF, orElse, lenS, bltF1, notT, andT, orT, tstF, l_list, l_tuple, l_all, l_listL, l_listT, l_tupL, l_tupT, l_abs, c_lt, c_le, c_gt, c_ge, c_eqI, c_neI, c_inS, c_niS, i_list, i_tuple, i_str, x_list, x_tuple, plainF, ixF, ixS, asgF, unpF, unF, setAll, List.length_cons, List.length_nil, List.map_cons, List.map_nil, if_true, if_false, List.cons_append, List.nil_append, List.append_nil, List.getElem?_cons_zero, List.getElem?_cons_succ, List.replicate, List.set_cons_zero, List.set_cons_succ, Option.bind_some, Option.map_some, Option.bind_none, Option.map_none, Bool.not_true, Bool.not_false, Bool.false_eq_true, Bool.or_false, Bool.or_true, Nat.reduceAdd, Nat.reduceSub, Nat.zero_add, decide_true, decide_false, Bool.true_and, Bool.false_and, Bool.and_true, Bool.and_false, wp_some, wp_none, wp_bind, wp_map, wp_if, binF, slF, partF, negE, y_list, y_tuple, lstF, tupF, ds_nil, ds_fz, setF, setS, appS, par2F, par3F, wp_frz, dict0, dict1, Iv.keyOf, kD, flatD, upF, revF, bltF2, swS, isiF2, lenOk_of, Nat.reduceLeDiff, b_add, b_sub, Int.reduceBEq, beq_self_eq_true, Int.reduceAdd, Int.reduceSub, l0, c0]
          refine wp_seq ?_
          try simp only [frzS, frzs, frz1, retF, retS, ifS, skipS, andE, orE, notE, ifE, valF, vE, vV, kE, kV', callF, ar_nil, ar_cons, dn_fz, dn_ow, dn_bag, dn_scr, d_fz, d_ow, b_of, isiF, isD, blF, cmpF, chainF, orElse, lenS, bltF1, notT, andT, orT, tstF, l_list, l_tuple, l_all, l_listL, l_listT, l_tupL, l_tupT, l_abs, c_lt, c_le, c_gt, c_ge, c_eqI, c_neI, c_inS, c_niS, i_list, i_tuple, i_str, x_list, x_tuple, plainF, ixF, ixS, asgF, unpF, unF, setAll, List.length_cons, List.length_nil, List.map_cons, List.map_nil, if_true, if_false, List.cons_append, List.nil_append, List.append_nil, List.getElem?_cons_zero, List.getElem?_cons_succ, List.replicate, List.set_cons_zero, List.set_cons_succ, Option.bind_some, Option.map_some, Option.bind_none, Option.map_none, Bool.not_true, Bool.not_false, Bool.false_eq_true, Bool.or_false, Bool.or_true, Nat.reduceAdd, Nat.reduceSub, Nat.zero_add, decide_true, decide_false, Bool.true_and, Bool.false_and, Bool.and_true, Bool.and_false, wp_some, wp_none, wp_bind, wp_map, wp_if, binF, slF, partF, negE, y_list, y_tuple, lstF, tupF, ds_nil, ds_fz, setF, setS, appS, par2F, par3F, wp_frz, dict0, dict1, Iv.keyOf, kD, flatD, upF, revF, bltF2, swS, isiF2, lenOk_of, Nat.reduceLeDiff, b_add, b_sub, Int.reduceBEq, beq_self_eq_true, Int.reduceAdd, Int.reduceSub, q2, q4, q6, c3]
          refine wp_seq ?_
          rw [wp_frz]
          obtain ⟨zz, hzz⟩ : ∃ zz, frzs [2, 12, 4, 5, 6] [some (.scr ns), some (.fz (.int (c : Nat))), some .bag, some (.fz (.tuple BD)), some (.fz d1), some (.fz d2), some (.fz d3), some (.fz HD), some (.fz ED), some (.fz (.tuple FD)), z10, some (.ow (.list LD)), z12, some (.fz d), some (.fz (.list [.bool v1, .bool v2, .bool v3])), z15] = [some (.scr ns), some (.fz (.int (c : Nat))), some .bag, some (.fz (.tuple BD)), some (.fz d1), some (.fz d2), some (.fz d3), some (.fz HD), some (.fz ED), some (.fz (.tuple FD)), z10, some (.ow (.list LD)), zz, some (.fz d), some (.fz (.list [.bool v1, .bool v2, .bool v3])), z15] := by
            rcases z12 with _ | r
            · exact ⟨_, rfl⟩
            · cases r <;> exact ⟨_, rfl⟩
          rw [hzz]
          try simp only [frzS, frzs, frz1, retF, retS, ifS, skipS, andE, orE, notE, ifE, valF, vE, vV, kE, kV', callF, ar_nil, ar_cons, dn_fz, dn_ow, dn_bag, dn_scr, d_fz, d_ow, b_of, isiF, isD, blF, cmpF, chainF, orElse, lenS, bltF1, notT, andT, orT, tstF, l_list, l_tuple, l_all, l_listL, l_listT, l_tupL, l_tupT, l_abs, c_lt, c_le, c_gt, c_ge, c_eqI, c_neI, c_inS, c_niS, i_list, i_tuple, i_str, x_list, x_tuple, plainF, ixF, ixS, asgF, unpF, unF, setAll, List.length_cons, List.length_nil, List.map_cons, List.map_nil, if_true, if_false, List.cons_append, List.nil_append, List.append_nil, List.getElem?_cons_zero, List.getElem?_cons_succ, List.replicate, List.set_cons_zero, List.set_cons_succ, Option.bind_some, Option.map_some, Option.bind_none, Option.map_none, Bool.not_true, Bool.not_false, Bool.false_eq_true, Bool.or_false, Bool.or_true, Nat.reduceAdd, Nat.reduceSub, Nat.zero_add, decide_true, decide_false, Bool.true_and, Bool.false_and, Bool.and_true, Bool.and_false, wp_some, wp_none, wp_bind, wp_map, wp_if, binF, slF, partF, negE, y_list, y_tuple, lstF, tupF, ds_nil, ds_fz, setF, setS, appS, par2F, par3F, wp_frz, dict0, dict1, Iv.keyOf, kD, flatD, upF, revF, bltF2, swS, isiF2, lenOk_of, Nat.reduceLeDiff, b_add, b_sub, Int.reduceBEq, beq_self_eq_true, Int.reduceAdd, Int.reduceSub]
          refine wp_lcI ?_
          try simp only [frzS, frzs, frz1, retF, retS, ifS, skipS, andE, orE, notE, ifE, valF, vE, vV, kE, kV', callF, ar_nil, ar_cons, dn_fz, dn_ow, dn_bag, dn_scr, d_fz, d_ow, b_of, isiF, isD, blF, cmpF, chainF, orElse, lenS, bltF1, notT, andT, orT, tstF, l_list, l_tuple, l_all, l_listL, l_listT, l_tupL, l_tupT, l_abs, c_lt, c_le, c_gt, c_ge, c_eqI, c_neI, c_inS, c_niS, i_list, i_tuple, i_str, x_list, x_tuple, plainF, ixF, ixS, asgF, unpF, unF, setAll, List.length_cons, List.length_nil, List.map_cons, List.map_nil, if_true, if_false, List.cons_append, List.nil_append, List.append_nil, List.getElem?_cons_zero, List.getElem?_cons_succ, List.replicate, List.set_cons_zero, List.set_cons_succ, Option.bind_some, Option.map_some, Option.bind_none, Option.map_none, Bool.not_true, Bool.not_false, Bool.false_eq_true, Bool.or_false, Bool.or_true, Nat.reduceAdd, Nat.reduceSub, Nat.zero_add, decide_true, decide_false, Bool.true_and, Bool.false_and, Bool.and_true, Bool.and_false, wp_some, wp_none, wp_bind, wp_map, wp_if, binF, slF, partF, negE, y_list, y_tuple, lstF, tupF, ds_nil, ds_fz, setF, setS, appS, par2F, par3F, wp_frz, dict0, dict1, Iv.keyOf, kD, flatD, upF, revF, bltF2, swS, isiF2, lenOk_of, Nat.reduceLeDiff, b_add, b_sub, Int.reduceBEq, beq_self_eq_true, Int.reduceAdd, Int.reduceSub]
          refine wp_ll (ds := [d1, d2, d3]) (fun j acc st => ∃ s, bgOk s ∧ st = some s ∧ acc.length = j ∧ ∀ x ∈ acc, Sp (c' + 1) x ∧ x.depth ≤ 4 + 4 * (c' + 1)) ⟨s9, b9, rfl, rfl, fun x hx => by cases hx⟩ (by show 3 ≤ 16777216; omega) ?b3 ?r3
          case b3 =>
            rintro j d acc st hd ⟨s10, b10, rfl, hl, ha⟩
            have sd : Sp c' d ∧ d.depth ≤ 4 + 4 * c' := by
              have := List.mem_of_getElem? hd
              simp only [List.mem_cons, List.not_mem_nil, or_false] at this
              rcases this with rfl | rfl | rfl
              · exact ⟨p1, e1⟩
              · exact ⟨p2, e2⟩
              · exact ⟨p3, e3⟩
            refine ⟨_, rfl, ?_⟩
            try simp only [frzS, frzs, frz1, retF, retS, ifS, skipS, andE, orE, notE, ifE, valF, vE, vV, kE, kV', callF, ar_nil, ar_cons, dn_fz, dn_ow, dn_bag, dn_scr, d_fz, d_ow, b_of, isiF, isD, blF, cmpF, chainF, orElse, lenS, bltF1, notT, andT, orT, tstF, l_list, l_tuple, l_all, l_listL, l_listT, l_tupL, l_tupT, l_abs, c_lt, c_le, c_gt, c_ge, c_eqI, c_neI, c_inS, c_niS, i_list, i_tuple, i_str, x_list, x_tuple, plainF, ixF, ixS, asgF, unpF, unF, setAll, List.length_cons, List.length_nil, List.map_cons, List.map_nil, if_true, if_false, List.cons_append, List.nil_append, List.append_nil, List.getElem?_cons_zero, List.getElem?_cons_succ, List.replicate, List.set_cons_zero, List.set_cons_succ, Option.bind_some, Option.map_some, Option.bind_none, Option.map_none, Bool.not_true, Bool.not_false, Bool.false_eq_true, Bool.or_false, Bool.or_true, Nat.reduceAdd, Nat.reduceSub, Nat.zero_add, decide_true, decide_false, Bool.true_and, Bool.false_and, Bool.and_true, Bool.and_false, wp_some, wp_none, wp_bind, wp_map, wp_if, binF, slF, partF, negE, y_list, y_tuple, lstF, tupF, ds_nil, ds_fz, setF, setS, appS, par2F, par3F, wp_frz, dict0, dict1, Iv.keyOf, kD, flatD, upF, revF, bltF2, swS, isiF2, lenOk_of, Nat.reduceLeDiff, b_add, b_sub, Int.reduceBEq, beq_self_eq_true, Int.reduceAdd, Int.reduceSub, yesT, wipeE]
            have := w_spoilt (n := c') (by omega) (4 + 4 * c') (47 - (4 + 4 * c') - 3) d s10 (fun q => ∃ x, q.1.d? = some x ∧ ∃ s, bgOk s ∧ q.2 = some s ∧ (acc ++ [x]).length = j + 1 ∧ ∀ y ∈ acc ++ [x], Sp (c' + 1) y ∧ y.depth ≤ 4 + 4 * (c' + 1)) sd.2 sd.1 b10 (fun d' s' h1 h2 h3 => ⟨d', rfl, s', h3, rfl, by rw [List.length_append, hl]; rfl, fun y hy => by
              rcases List.mem_append.mp hy with hy | hy
              · exact ha y hy
              · rw [List.mem_singleton.mp hy]; exact ⟨h1, by omega⟩⟩)
            rw [show 47 - (4 + 4 * c') - 3 + (4 + 4 * c') + 3 = 47 by omega] at this
            exact this
          case r3 =>
            rintro acc st ⟨s10, b10, rfl, hl, ha⟩
            match acc, hl with
            | [y1, y2, y3], _ =>
              try simp only [frzS, frzs, frz1, retF, retS, ifS, skipS, andE, orE, notE, ifE, valF, vE, vV, kE, kV', callF, ar_nil, ar_cons, dn_fz, dn_ow, dn_bag, dn_scr, d_fz, d_ow, b_of, isiF, isD, blF, cmpF, chainF, orElse, lenS, bltF1, notT, andT, orT, tstF, l_list, l_tuple, l_all, l_listL, l_listT, l_tupL, l_tupT, l_abs, c_lt, c_le, c_gt, c_ge, c_eqI, c_neI, c_inS, c_niS, i_list, i_tuple, i_str, x_list, x_tuple, plainF, ixF, ixS, asgF, unpF, unF, setAll, List.length_cons, List.length_nil, List.map_cons, List.map_nil, if_true, if_false, List.cons_append, List.nil_append, List.append_nil, List.getElem?_cons_zero, List.getElem?_cons_succ, List.replicate, List.set_cons_zero, List.set_cons_succ, Option.bind_some, Option.map_some, Option.bind_none, Option.map_none, Bool.not_true, Bool.not_false, Bool.false_eq_true, Bool.or_false, Bool.or_true, Nat.reduceAdd, Nat.reduceSub, Nat.zero_add, decide_true, decide_false, Bool.true_and, Bool.false_and, Bool.and_true, Bool.and_false, wp_some, wp_none, wp_bind, wp_map, wp_if, binF, slF, partF, negE, y_list, y_tuple, lstF, tupF, ds_nil, ds_fz, setF, setS, appS, par2F, par3F, wp_frz, dict0, dict1, Iv.keyOf, kD, flatD, upF, revF, bltF2, swS, isiF2, lenOk_of, Nat.reduceLeDiff, b_add, b_sub, Int.reduceBEq, beq_self_eq_true, Int.reduceAdd, Int.reduceSub]
              refine ⟨s10, y1, y2, y3, _, _, _, _, b10, rfl, rfl, ha y1 (by simp), ha y2 (by simp), ha y3 (by simp)⟩
theorem ans (ns : List Int) (h : ns.length ≤ 63) : tbl.F whR 60 48 ("law" : PySem.Str) [.scr ns] none = some (.fz (.bool true), none) := wp_get (law_runs ns h)
end K01

set_option maxHeartbeats 0
open PySem PySem.W PySem.Calls PyProof.Rows
theorem K01.wok : Iv.WhOk K01.whR := K01.whR_ok
theorem PySem.Challenge.cw_holetubs_k01_tubs_weather_beginnings_tol_holds : PySem.Challenge.rw_holetubs_k01_tubs_weather_beginnings_tol.Holds := by
  w_on; o_law
  refine HandSHeadRun.head_any (r := OpenLaw.row PySem.Challenge.rw_holetubs_k01_tubs_weather_beginnings_tol) (q := view (OpenLaw.row PySem.Challenge.rw_holetubs_k01_tubs_weather_beginnings_tol).prog [51]) (H := K01.hk) (ob := K01.ob) (M := 4000) (loose := K01.loose) (d := HandSHeadRun.topDef (OpenLaw.row PySem.Challenge.rw_holetubs_k01_tubs_weather_beginnings_tol).prog 51) (kwd := []) K01.ob_eq
    (by kernel_rfl) (fun s => by kernel_rfl) K01.run (by kernel_rfl) (by kernel_rfl) (by kernel_rfl) (by rfl) (by first | assumption | decide +kernel) (by decide +kernel) ⟨rfl, rfl, rfl, rfl, rfl, by decide +kernel⟩ ?hw ?hc
  case hw => w_witness2
  case hc =>
    refine L2.walk_ofE (l := PySem.Challenge.rw_holetubs_k01_tubs_weather_beginnings_tol) (n := 63) (k := 48) (x := "script") (CX := L2.CX0) rfl (by decide) (by kernel_rfl) ⟨rfl, by decide, by decide⟩ ?F (fun _ _ _ _ z => z)
    intro w mg fa h Y G hmg0
    obtain ⟨K, KX, c⟩ := Y
    have hmg : mg ("law" : PySem.Str) = some (.ref fa) := by
      have e : (HandSHeadRun.topDef (OpenLaw.row PySem.Challenge.rw_holetubs_k01_tubs_weather_beginnings_tol).prog 51).name = ("law" : PySem.Str) := by kernel_rfl
      rw [← e]
      exact hmg0
    obtain ⟨fd, hb, hF⟩ := Iv.Tbl.law (P := (PySem.Challenge.rw_holetubs_k01_tubs_weather_beginnings_tol).prog) (w := w) (T := K01.tbl) K01.wok K01.oks c KX G 60 48 63 hmg (d := K01.d_law) (by kernel_rfl) rfl K01.ans
    exact ⟨K, fd, Iv.spL K 63, KX, hb, fun H a ns hl hO hS => ⟨a, ns, rfl, Iv.sc_of hO hS, hl, fun _ => rfl⟩, hF⟩
