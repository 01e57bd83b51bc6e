import PyProof.Rows.All
import Wide.All
import OpenK.AllK
import Wide.FinOn
import HandS.ForMost
import HandS.ForExc
import HandS.Wide
import HandS.IsInst
import HandS.More
import HandS.Codes
import HandS.Zip
import HandS.TupAny
import HandS.TupMul
import HandS.ExcIs
import KE.RegKIsAll
import PySem.Challenge.RW_drawloom_k05_launches
set_option Elab.async false
set_option linter.all false
set_option maxRecDepth 100000
/-! Launches: what is one by the program, by the law. -/
namespace L2
open PySem PySem.Spec PyProof.Rows
/-! ### data: what a value is, whatever stands where -/
theorem Same.sqt {K : PySem.W.Frag} {H H' : Hp} {a : Addr} {xs : List V} (e : Same H H') (h : SqT K H a xs) : SqT K H' a xs := by
  rcases h with (h | ⟨o, h⟩) | h
  · exact .inl (.inl (e _ _ h))
  · exact .inl (.inr ⟨o, e _ _ h⟩)
  · exact .inr h
/-- what stands outside of M stands as before -/
def Off (M : Addr → Prop) (H H' : Hp) : Prop := ∀ b o, ¬ M b → H b = some o → H' b = some o
theorem Off.refl {M : Addr → Prop} {H : Hp} : Off M H H := fun _ _ _ h => h
theorem Off.trans {M : Addr → Prop} {H H1 H2 : Hp} (a : Off M H H1) (b : Off M H1 H2) : Off M H H2 := fun c o n h => b c o n (a c o n h)
theorem Off.of {M : Addr → Prop} {H H' : Hp} (h : Same H H') : Off M H H' := fun b o _ e => h b o e
theorem Off.mono {M N : Addr → Prop} {H H' : Hp} (h : Off M H H') (s : ∀ b, M b → N b) : Off N H H' := fun b o n e => h b o (fun m => n (s b m)) e
/-- a list, a tuple that is read and is not in M -/
def SqLM (M : Addr → Prop) (K : PySem.W.Frag) (H : Hp) (a : Addr) (xs : List V) : Prop :=
  (¬ M a ∧ Rd H a (.lst xs)) ∨ ∃ (o : Obj) (its : Array Value) (n : Nat), K.lookup a = some o ∧ o.cls = .type "list" ∧ o.dict = none ∧ o.data = .seq its n ∧ its.size ≤ sizeLine ∧ Vals xs its.toList
def SqTM (M : Addr → Prop) (K : PySem.W.Frag) (H : Hp) (a : Addr) (xs : List V) : Prop :=
  (¬ M a ∧ Rd H a (.tup xs)) ∨ ∃ (o : Obj) (its : Array Value) (n : Nat), K.lookup a = some o ∧ o.cls = .type "tuple" ∧ o.data = .seq its n ∧ its.size ≤ sizeLine ∧ Vals xs its.toList
theorem SqLM.sq {M : Addr → Prop} {K : PySem.W.Frag} {H : Hp} {a : Addr} {xs : List V} (h : SqLM M K H a xs) : SqL K H a xs := by
  rcases h with ⟨_, h⟩ | h
  · exact .inl h
  · exact .inr h
theorem SqTM.sq {M : Addr → Prop} {K : PySem.W.Frag} {H : Hp} {a : Addr} {xs : List V} (h : SqTM M K H a xs) : SqT K H a xs := by
  rcases h with ⟨_, h⟩ | h
  · exact .inl h
  · exact .inr h
theorem Rd.off {M : Addr → Prop} {H H' : Hp} {a : Addr} {u : HO} (e : Off M H H') (n : ¬ M a) (h : Rd H a u) : Rd H' a u := by
  rcases h with h | ⟨o, h⟩
  · exact .inl (e _ _ n h)
  · exact .inr ⟨o, e _ _ n h⟩
theorem Rd.some {H : Hp} {a : Addr} {u : HO} (h : Rd H a u) : H a ≠ none := by
  rcases h with h | ⟨o, h⟩ <;> rw [h] <;> intro z <;> cases z
theorem SqLM.off {M : Addr → Prop} {K : PySem.W.Frag} {H H' : Hp} {a : Addr} {xs : List V} (e : Off M H H') (h : SqLM M K H a xs) : SqLM M K H' a xs := by
  rcases h with ⟨n, h⟩ | h
  · exact .inl ⟨n, Rd.off e n h⟩
  · exact .inr h
theorem SqTM.off {M : Addr → Prop} {K : PySem.W.Frag} {H H' : Hp} {a : Addr} {xs : List V} (e : Off M H H') (h : SqTM M K H a xs) : SqTM M K H' a xs := by
  rcases h with ⟨n, h⟩ | h
  · exact .inl ⟨n, Rd.off e n h⟩
  · exact .inr h
theorem SqLM.more {M N : Addr → Prop} {K : PySem.W.Frag} {H : Hp} {a : Addr} {xs : List V} (s : ∀ b, N b → M b ∨ H b = none) (h : SqLM M K H a xs) : SqLM N K H a xs := by
  rcases h with ⟨n, h⟩ | h
  · exact .inl ⟨fun z => (s _ z).elim n h.some, h⟩
  · exact .inr h
theorem SqTM.more {M N : Addr → Prop} {K : PySem.W.Frag} {H : Hp} {a : Addr} {xs : List V} (s : ∀ b, N b → M b ∨ H b = none) (h : SqTM M K H a xs) : SqTM N K H a xs := by
  rcases h with ⟨n, h⟩ | h
  · exact .inl ⟨fun z => (s _ z).elim n h.some, h⟩
  · exact .inr h
mutual
/-- data none of whose objects is in M -/
inductive Dt (M : Addr → Prop) (K : PySem.W.Frag) (H : Hp) : V → PyData → Prop
  | non : Dt M K H .non .none
  | bl (b : Bool) : Dt M K H (.bl b) (.bool b)
  | int (i : Int) : Dt M K H (.int i) (.int i)
  | str (x : Str) : Dt M K H (.str x) (.str x)
  | lst {a : Addr} {xs : List V} {ds : List PyData} : SqLM M K H a xs → DtAll M K H xs ds → Dt M K H (.ref a) (.list ds)
  | tup {a : Addr} {xs : List V} {ds : List PyData} : SqTM M K H a xs → DtAll M K H xs ds → Dt M K H (.ref a) (.tuple ds)
inductive DtAll (M : Addr → Prop) (K : PySem.W.Frag) (H : Hp) : List V → List PyData → Prop
  | nil : DtAll M K H [] []
  | cons {v : V} {vs : List V} {d : PyData} {ds : List PyData} : Dt M K H v d → DtAll M K H vs ds → DtAll M K H (v :: vs) (d :: ds)
end
theorem SqL.off {M : Addr → Prop} {K : PySem.W.Frag} {H H' : Hp} {a : Addr} {xs : List V} (e : Off M H H') (n : ¬ M a) (h : SqL K H a xs) : SqL K H' a xs := by
  rcases h with (h | ⟨o, h⟩) | h
  · exact .inl (.inl (e _ _ n h))
  · exact .inl (.inr ⟨o, e _ _ n h⟩)
  · exact .inr h
theorem SqT.off {M : Addr → Prop} {K : PySem.W.Frag} {H H' : Hp} {a : Addr} {xs : List V} (e : Off M H H') (n : ¬ M a) (h : SqT K H a xs) : SqT K H' a xs := by
  rcases h with (h | ⟨o, h⟩) | h
  · exact .inl (.inl (e _ _ n h))
  · exact .inl (.inr ⟨o, e _ _ n h⟩)
  · exact .inr h
section
variable {M N : Addr → Prop} {K : PySem.W.Frag} {H H' : Hp}
mutual
theorem Dt.off (e : Off M H H') : ∀ {v : V} {d : PyData}, Dt M K H v d → Dt M K H' v d
  | _, _, .non => .non
  | _, _, .bl b => .bl b
  | _, _, .int i => .int i
  | _, _, .str x => .str x
  | _, _, .lst h r => .lst (h.off e) (DtAll.off e r)
  | _, _, .tup h r => .tup (h.off e) (DtAll.off e r)
theorem DtAll.off (e : Off M H H') : ∀ {vs : List V} {ds : List PyData}, DtAll M K H vs ds → DtAll M K H' vs ds
  | _, _, .nil => .nil
  | _, _, .cons h r => .cons (Dt.off e h) (DtAll.off e r)
end
mutual
theorem Dt.more (s : ∀ b, N b → M b ∨ H b = none) : ∀ {v : V} {d : PyData}, Dt M K H v d → Dt N K H v d
  | _, _, .non => .non
  | _, _, .bl b => .bl b
  | _, _, .int i => .int i
  | _, _, .str x => .str x
  | _, _, .lst h r => .lst (h.more s) (DtAll.more s r)
  | _, _, .tup h r => .tup (h.more s) (DtAll.more s r)
theorem DtAll.more (s : ∀ b, N b → M b ∨ H b = none) : ∀ {vs : List V} {ds : List PyData}, DtAll M K H vs ds → DtAll N K H vs ds
  | _, _, .nil => .nil
  | _, _, .cons h r => .cons (Dt.more s h) (DtAll.more s r)
end
mutual
theorem Dt.dp : ∀ {v : V} {d : PyData}, Dt M K H v d → Dp K H v d
  | _, _, .non => .non
  | _, _, .bl b => .bl b
  | _, _, .int i => .int i
  | _, _, .str x => .str x
  | _, _, .lst h r => .lst h.sq (DtAll.dp r)
  | _, _, .tup h r => .tup h.sq (DtAll.dp r)
theorem DtAll.dp : ∀ {vs : List V} {ds : List PyData}, DtAll M K H vs ds → DpAll K H vs ds
  | _, _, .nil => .nil
  | _, _, .cons h r => .cons (Dt.dp h) (DtAll.dp r)
end
mutual
theorem Dp.same (e : Same H H') : ∀ {v : V} {d : PyData}, Dp K H v d → Dp K H' v d
  | _, _, .non => .non
  | _, _, .bl b => .bl b
  | _, _, .int i => .int i
  | _, _, .str x => .str x
  | _, _, .lst h r => .lst (e.seq h) (DpAll.same e r)
  | _, _, .tup h r => .tup (Same.sqt e h) (DpAll.same e r)
theorem DpAll.same (e : Same H H') : ∀ {vs : List V} {ds : List PyData}, DpAll K H vs ds → DpAll K H' vs ds
  | _, _, .nil => .nil
  | _, _, .cons h r => .cons (Dp.same e h) (DpAll.same e r)
end
theorem DpAll.len : ∀ {vs : List V} {ds : List PyData}, DpAll K H vs ds → vs.length = ds.length
  | _, _, .nil => rfl
  | _, _, .cons _ r => congrArg (· + 1) (DpAll.len r)
theorem DtAll.len {vs : List V} {ds : List PyData} (h : DtAll M K H vs ds) : vs.length = ds.length := DpAll.len (DtAll.dp h)
theorem DpAll.get : ∀ {vs : List V} {ds : List PyData} {i : Nat} {v : V}, DpAll K H vs ds → vs[i]? = some v → ∃ d, ds[i]? = some d ∧ Dp K H v d
  | _, _, _, _, .nil, e => by simp at e
  | _, _, 0, _, .cons h _, e => ⟨_, rfl, by cases e; exact h⟩
  | _, _, i + 1, _, .cons _ r, e => DpAll.get (i := i) r e
theorem DpAll.at : ∀ {vs : List V} {ds : List PyData} {i : Nat} {d : PyData}, DpAll K H vs ds → ds[i]? = some d → ∃ v, vs[i]? = some v ∧ Dp K H v d
  | _, _, _, _, .nil, e => by simp at e
  | _, _, 0, _, .cons h _, e => ⟨_, rfl, by cases e; exact h⟩
  | _, _, i + 1, _, .cons _ r, e => DpAll.at (i := i) r e
theorem DtAll.get : ∀ {vs : List V} {ds : List PyData} {i : Nat} {v : V}, DtAll M K H vs ds → vs[i]? = some v → ∃ d, ds[i]? = some d ∧ Dt M K H v d
  | _, _, _, _, .nil, e => by simp at e
  | _, _, 0, _, .cons h _, e => ⟨_, rfl, by cases e; exact h⟩
  | _, _, i + 1, _, .cons _ r, e => DtAll.get (i := i) r e
theorem DtAll.at : ∀ {vs : List V} {ds : List PyData} {i : Nat} {d : PyData}, DtAll M K H vs ds → ds[i]? = some d → ∃ v, vs[i]? = some v ∧ Dt M K H v d
  | _, _, _, _, .nil, e => by simp at e
  | _, _, 0, _, .cons h _, e => ⟨_, rfl, by cases e; exact h⟩
  | _, _, i + 1, _, .cons _ r, e => DtAll.at (i := i) r e
theorem DtAll.app : ∀ {vs us : List V} {ds es : List PyData}, DtAll M K H vs ds → DtAll M K H us es → DtAll M K H (vs ++ us) (ds ++ es)
  | _, _, _, _, .nil, h => h
  | _, _, _, _, .cons h r, q => .cons h (DtAll.app r q)
theorem DtAll.take : ∀ {vs : List V} {ds : List PyData} (n : Nat), DtAll M K H vs ds → DtAll M K H (vs.take n) (ds.take n)
  | _, _, 0, _ => .nil
  | _, _, _ + 1, .nil => .nil
  | _, _, n + 1, .cons h r => .cons h (DtAll.take n r)
theorem DtAll.drop : ∀ {vs : List V} {ds : List PyData} (n : Nat), DtAll M K H vs ds → DtAll M K H (vs.drop n) (ds.drop n)
  | _, _, 0, h => h
  | _, _, _ + 1, .nil => .nil
  | _, _, n + 1, .cons _ r => DtAll.drop n r
theorem DtAll.rep {v : V} {d : PyData} (h : Dt M K H v d) : ∀ n : Nat, DtAll M K H (List.replicate n v) (List.replicate n d)
  | 0 => .nil
  | n + 1 => .cons h (DtAll.rep h n)
/-- a tuple that was just laid -/
theorem Dt.laid {a : Addr} {xs : List V} {ds : List PyData} (n : ¬ M a) (h : H a = some (.tup xs)) (r : DtAll M K H xs ds) : Dt M K H (.ref a) (.tuple ds) := .tup (.inl ⟨n, .inl h⟩) r
theorem Dt.laidL {a : Addr} {xs : List V} {ds : List PyData} (n : ¬ M a) (h : H a = some (.lst xs)) (r : DtAll M K H xs ds) : Dt M K H (.ref a) (.list ds) := .lst (.inl ⟨n, .inl h⟩) r
theorem DtAll.ints : ∀ xs : List Int, DtAll M K H (xs.map V.int) (xs.map PyData.int)
  | [] => .nil
  | x :: r => .cons (.int x) (DtAll.ints r)
/-- a type's name -/
def tyN : PyData → String
  | .none => "NoneType"
  | .bool _ => "bool"
  | .int _ => "int"
  | .str _ => "str"
  | .list _ => "list"
  | .tuple _ => "tuple"
  | .dict _ => "dict"
theorem Dp.tyx : ∀ {v : V} {d : PyData}, Dp K H v d → TyX K H v (.type (tyN d))
  | _, _, .non => .base .non
  | _, _, .bl b => .base (.bl b)
  | _, _, .int i => .base (.int i)
  | _, _, .str x => .base (.str x)
  | _, _, .lst (.inl (.inl h)) _ => .base (.lst h)
  | _, _, .lst (.inl (.inr ⟨_, h⟩)) _ => .base (.frz h)
  | _, _, .lst (.inr ⟨_, _, _, h, c, _⟩) _ => .kList h c
  | _, _, .tup (.inl (.inl h)) _ => .base (.tup h)
  | _, _, .tup (.inl (.inr ⟨_, h⟩)) _ => .fTuple h
  | _, _, .tup (.inr ⟨_, _, _, h, c, _⟩) _ => .kTuple h c
end
def isTup : PyData → Bool
  | .tuple _ => true
  | _ => false
def isStr : PyData → Bool
  | .str _ => true
  | _ => false
def isBool : PyData → Bool
  | .bool _ => true
  | _ => false
def isInt : PyData → Bool
  | .bool _ | .int _ => true
  | _ => false
theorem kit_tup {K : PySem.W.Frag} (d : PyData) : PySem.W.kitOne K (.type (tyN d)) (.type "tuple") = some (isTup d) := by
  cases d <;> exact kit_ty (by kernel_rfl)
theorem kit_int {K : PySem.W.Frag} (d : PyData) : PySem.W.kitOne K (.type (tyN d)) (.type "int") = some (isInt d) := by
  cases d <;> exact kit_ty (by kernel_rfl)
theorem kit_bool {K : PySem.W.Frag} (d : PyData) : PySem.W.kitOne K (.type (tyN d)) (.type "bool") = some (isBool d) := by
  cases d <;> exact kit_ty (by kernel_rfl)
theorem kit_str {K : PySem.W.Frag} (d : PyData) : PySem.W.kitOne K (.type (tyN d)) (.type "str") = some (isStr d) := by
  cases d <;> exact kit_ty (by kernel_rfl)
end L2
set_option maxHeartbeats 4000000
namespace L2
open PySem PySem.Spec PyProof.Rows
theorem tuple_mul1 (l : Addr) (items : Array Value) (n : Nat) (dd : Option Addr) (sl : Array (Option Value)) (u : Tok) :
    Meets (Builtin.«tuple.__mul__» ⟨[.ref l, .int 1 u], []⟩) (fun _ R s => s.heap.get? l = some { cls := .type "tuple", dict := dd, data := .seq items n, slots := sl } ∧
      R (.ok (.ret (Value.ref l))) s) :=
  .of_wp fun prog w A R s h => by
    obtain ⟨hp, g, d, tk, os⟩ := s
    obtain ⟨hl, h⟩ := h
    have f1 := AutoSeq1.idx_int
    wp_walk using wpAny_loadPart' hl
    exact ⟨_, rfl, h⟩
theorem tuple_mul0 (l : Addr) (items : Array Value) (n : Nat) (dd : Option Addr) (sl : Array (Option Value)) (u : Tok) (hne : items.isEmpty = false) :
    Meets (Builtin.«tuple.__mul__» ⟨[.ref l, .int 0 u], []⟩) (fun _ R s => s.heap.get? l = some { cls := .type "tuple", dict := dd, data := .seq items n, slots := sl } ∧
      R (.ok (.ret (Value.ref s.heap.objs.size))) { s with heap := s.heap.push { cls := Value.type "tuple", data := Data.seq #[] }, toks := s.toks }) :=
  .of_wp fun prog w A R s h => by
    obtain ⟨hp, g, d, tk, os⟩ := s
    obtain ⟨hl, h⟩ := h
    have f1 := AutoSeq1.idx_int
    wp_walk using wpAny_loadPart' hl
    exact ⟨_, rfl, h⟩
def rRep01 (K : PySem.W.Frag) : R2 := fun x y H Q => ∃ l k xs, x = .ref l ∧ y = .int k ∧ SqT K H l xs ∧ xs ≠ [] ∧ ((k = 1 ∧ Q (.ref l) H) ∨ (k = 0 ∧ ∀ p, H p = none → Q (.ref p) (upd H p (.tup []))))
theorem op_rep01 {X : Cx} : OpR X (binaryOp .Mult) (rRep01 X.K) := by
  intro pins s σ H x y v u Q I rx ry h
  obtain ⟨l, k, xs, rfl, rfl, hT, hne, h⟩ := h
  cases rx
  obtain ⟨t, rfl⟩ := ry
  obtain ⟨its, r, ⟨⟨cls, dd, data, sl⟩, ho, hc, n, hd⟩, hs⟩ := I.tuple hT
  simp only at hc hd
  subst hc hd
  have hle : its.length = xs.length := r.length.symm
  have hi : its.toArray.isEmpty = false := by
    cases its with
    | nil => exact absurd (List.eq_nil_of_length_eq_zero hle.symm) hne
    | cons a b => rfl
  rcases h with ⟨rfl, q⟩ | ⟨rfl, q⟩
  · refine wpAny_binaryOp_repeat_ref (T := "tuple") (U := "int") (by decide) ⟨_, ho, rfl⟩ (fun s' => typeIs_int s' 1 t) noFill_tuple_mul F.fills_int_mul F.slot_int_rmul repeat_tuple F.slot_int_index.lookup
      (call_meets F.slot_int_rmul (typeIs_int s 1 t) F.entry_int_rmul (F.args_int_rmul_2 _ _) (int_rmul_tuple 1 t l its.toArray n dd sl)
        ⟨ho, rfl, ⟨_, ho, rfl⟩, call_meets F.slot_tuple_mul ⟨_, ho, rfl⟩ F.entry_tuple_mul (F.args_tuple_mul_2 _ _) (tuple_mul1 l its.toArray n dd sl t) ⟨ho, ?_⟩⟩)
    exact ⟨.ref l, H, I, rfl, q⟩
  · refine wpAny_binaryOp_repeat_ref (T := "tuple") (U := "int") (by decide) ⟨_, ho, rfl⟩ (fun s' => typeIs_int s' 0 t) noFill_tuple_mul F.fills_int_mul F.slot_int_rmul repeat_tuple F.slot_int_index.lookup
      (call_meets F.slot_int_rmul (typeIs_int s 0 t) F.entry_int_rmul (F.args_int_rmul_2 _ _) (int_rmul_tuple 0 t l its.toArray n dd sl)
        ⟨ho, rfl, ⟨_, ho, rfl⟩, call_meets F.slot_tuple_mul ⟨_, ho, rfl⟩ F.entry_tuple_mul (F.args_tuple_mul_2 _ _) (tuple_mul0 l its.toArray n dd sl t hi) ⟨ho, ?_⟩⟩)
    refine ⟨.ref s.heap.objs.size, _, I.laid (t' := s.toks) (o := .tup []) (fun b ob q => Heap.get?_push_of_some _ q) (Nat.le_refl _) ?_, rfl, q _ (I.hok.fresh (Nat.le_refl _))⟩
    exact ⟨Nat.zero_le _, [], .nil, IsTup.new _ _⟩
end L2
set_option maxHeartbeats 200000
namespace D5
open PySem PySem.Spec PyProof.Rows L2
/-! ### the text -/
def topS (i : Nat) : Stmt := PySem.Challenge.pw_drawloom_k05_launches.main.body.getD i (.Pass ⟨0, 0, 0, 0⟩)
abbrev s_is_between : Stmt := topS 6
theorem sc_is_between : FnScope ["value", "least", "most"] ["value", "least", "most"] (defScope s_is_between) := ⟨rfl, rfl, rfl, by decide +kernel, rfl, by decide +kernel, by decide +kernel⟩
abbrev s_is_word : Stmt := topS 7
theorem sc_is_word : FnScope ["value"] ["value"] (defScope s_is_word) := ⟨rfl, rfl, rfl, by decide +kernel, rfl, by decide +kernel, by decide +kernel⟩
abbrev s_is_tuple : Stmt := topS 13
theorem sc_is_tuple : FnScope ["value", "least", "most"] ["value", "least", "most"] (defScope s_is_tuple) := ⟨rfl, rfl, rfl, by decide +kernel, rfl, by decide +kernel, by decide +kernel⟩
abbrev s_is_buffer : Stmt := topS 14
theorem sc_is_buffer : FnScope ["value", "word"] ["value"] (defScope s_is_buffer) := ⟨rfl, rfl, rfl, by decide +kernel, rfl, by decide +kernel, by decide +kernel⟩
abbrev s_is_argument : Stmt := topS 15
theorem sc_is_argument : FnScope ["sort", "value", "many"] ["sort", "value", "many"] (defScope s_is_argument) := ⟨rfl, rfl, rfl, by decide +kernel, rfl, by decide +kernel, by decide +kernel⟩
abbrev s_are_arguments : Stmt := topS 16
theorem sc_are_arguments : FnScope ["value", "params", "many", "_", "sort", "argument"] ["value", "params", "many"] (defScope s_are_arguments) := ⟨rfl, rfl, rfl, by decide +kernel, rfl, by decide +kernel, by decide +kernel⟩
abbrev s_is_launch : Stmt := topS 17
theorem sc_is_launch : FnScope ["params", "value", "grid", "block", "arguments", "buffers", "buffer"] ["params", "value"] (defScope s_is_launch) := ⟨rfl, rfl, rfl, by decide +kernel, rfl, by decide +kernel, by decide +kernel⟩
abbrev s_check_launch : Stmt := topS 18
theorem sc_check_launch : FnScope ["kernel", "value"] ["kernel", "value"] (defScope s_check_launch) := ⟨rfl, rfl, rfl, by decide +kernel, rfl, by decide +kernel, by decide +kernel⟩
abbrev s_law_stream : Stmt := topS 20
theorem sc_law_stream : FnScope ["script", "mixed", "cell"] ["script"] (defScope s_law_stream) := ⟨rfl, rfl, rfl, by decide +kernel, rfl, by decide +kernel, by decide +kernel⟩
abbrev s_law_draw : Stmt := topS 21
theorem sc_law_draw : FnScope ["stream", "many", "value"] ["stream", "many"] (defScope s_law_draw) := ⟨rfl, rfl, rfl, by decide +kernel, rfl, by decide +kernel, by decide +kernel⟩
abbrev s_law_params : Stmt := topS 22
theorem sc_law_params : FnScope ["stream", "params", "name", "shared"] ["stream"] (defScope s_law_params) := ⟨rfl, rfl, rfl, by decide +kernel, rfl, by decide +kernel, by decide +kernel⟩
abbrev s_law_launch : Stmt := topS 29
theorem sc_law_launch : FnScope ["stream", "kernel", "buffers", "k", "many", "arguments", "name", "kind", "block", "j"] ["stream", "kernel"] (defScope s_law_launch) := ⟨rfl, rfl, rfl, by decide +kernel, rfl, by decide +kernel, by decide +kernel⟩
abbrev s_law_given : Stmt := topS 30
theorem sc_law_given : FnScope ["told"] ["told"] (defScope s_law_given) := ⟨rfl, rfl, rfl, by decide +kernel, rfl, by decide +kernel, by decide +kernel⟩
abbrev s_law_told : Stmt := topS 31
theorem sc_law_told : FnScope ["kernel", "value", "e"] ["kernel", "value"] (defScope s_law_told) := ⟨rfl, rfl, rfl, by decide +kernel, rfl, by decide +kernel, by decide +kernel⟩
abbrev s_law_is_number : Stmt := topS 32
theorem sc_law_is_number : FnScope ["value", "low", "high"] ["value", "low", "high"] (defScope s_law_is_number) := ⟨rfl, rfl, rfl, by decide +kernel, rfl, by decide +kernel, by decide +kernel⟩
abbrev s_law_is_word : Stmt := topS 33
theorem sc_law_is_word : FnScope ["value"] ["value"] (defScope s_law_is_word) := ⟨rfl, rfl, rfl, by decide +kernel, rfl, by decide +kernel, by decide +kernel⟩
abbrev s_law_is_good : Stmt := topS 34
theorem sc_law_is_good : FnScope ["kernel", "value", "row", "at", "cell"] ["kernel", "value"] (defScope s_law_is_good) := ⟨rfl, rfl, rfl, by decide +kernel, rfl, by decide +kernel, by decide +kernel⟩
abbrev s_law_odd : Stmt := topS 35
theorem sc_law_odd : FnScope ["stream", "rows"] ["stream"] (defScope s_law_odd) := ⟨rfl, rfl, rfl, by decide +kernel, rfl, by decide +kernel, by decide +kernel⟩
abbrev s_law_changed : Stmt := topS 36
theorem sc_law_changed : FnScope ["stream", "value", "at", "pick", "part", "spot"] ["stream", "value"] (defScope s_law_changed) := ⟨rfl, rfl, rfl, by decide +kernel, rfl, by decide +kernel, by decide +kernel⟩
abbrev s_law : Stmt := topS 37
theorem sc_law : FnScope ["script", "stream", "params", "shared", "kernel", "pick", "value", "due"] ["script"] (defScope s_law) := ⟨rfl, rfl, rfl, by decide +kernel, rfl, by decide +kernel, by decide +kernel⟩
theorem pe_gq {X : Cx} {x : Str} {v : V} {pos : Pos} (hg : Gl X x) (h : ∃ u, X.mg x = some u ∧ RelV v u) (hd : (x == ("__debug__" : Str)) = false := by decide) : PE X (.Name x pos) (tC v) := by
  obtain ⟨u, hm, r⟩ := h
  exact pe_glob hg hm r hd
structure Tx (w : World) (K : PySem.W.Frag) (mg : Str → Option Value) where
  a_is_between : Addr
  d_is_between : FuncData
  F_is_between : Fun K "is_between" "is_between" s_is_between a_is_between d_is_between
  b_is_between : Binds K d_is_between ["value", "least", "most"] []
  g_is_between : mg "is_between" = some (.ref a_is_between)
  a_is_word : Addr
  d_is_word : FuncData
  F_is_word : Fun K "is_word" "is_word" s_is_word a_is_word d_is_word
  b_is_word : Binds K d_is_word ["value"] []
  g_is_word : mg "is_word" = some (.ref a_is_word)
  a_is_tuple : Addr
  d_is_tuple : FuncData
  F_is_tuple : Fun K "is_tuple" "is_tuple" s_is_tuple a_is_tuple d_is_tuple
  b_is_tuple : Binds K d_is_tuple ["value", "least", "most"] []
  g_is_tuple : mg "is_tuple" = some (.ref a_is_tuple)
  a_is_buffer : Addr
  d_is_buffer : FuncData
  F_is_buffer : Fun K "is_buffer" "is_buffer" s_is_buffer a_is_buffer d_is_buffer
  b_is_buffer : Binds K d_is_buffer ["value"] []
  g_is_buffer : mg "is_buffer" = some (.ref a_is_buffer)
  a_is_argument : Addr
  d_is_argument : FuncData
  F_is_argument : Fun K "is_argument" "is_argument" s_is_argument a_is_argument d_is_argument
  b_is_argument : Binds K d_is_argument ["sort", "value", "many"] []
  g_is_argument : mg "is_argument" = some (.ref a_is_argument)
  a_are_arguments : Addr
  d_are_arguments : FuncData
  F_are_arguments : Fun K "are_arguments" "are_arguments" s_are_arguments a_are_arguments d_are_arguments
  b_are_arguments : Binds K d_are_arguments ["value", "params", "many"] []
  g_are_arguments : mg "are_arguments" = some (.ref a_are_arguments)
  a_is_launch : Addr
  d_is_launch : FuncData
  F_is_launch : Fun K "is_launch" "is_launch" s_is_launch a_is_launch d_is_launch
  b_is_launch : Binds K d_is_launch ["params", "value"] []
  g_is_launch : mg "is_launch" = some (.ref a_is_launch)
  a_check_launch : Addr
  d_check_launch : FuncData
  F_check_launch : Fun K "check_launch" "check_launch" s_check_launch a_check_launch d_check_launch
  b_check_launch : Binds K d_check_launch ["kernel", "value"] []
  g_check_launch : mg "check_launch" = some (.ref a_check_launch)
  a_law_stream : Addr
  d_law_stream : FuncData
  F_law_stream : Fun K "_law_stream" "_law_stream" s_law_stream a_law_stream d_law_stream
  b_law_stream : Binds K d_law_stream ["script"] []
  g_law_stream : mg "_law_stream" = some (.ref a_law_stream)
  a_law_draw : Addr
  d_law_draw : FuncData
  F_law_draw : Fun K "_law_draw" "_law_draw" s_law_draw a_law_draw d_law_draw
  b_law_draw : Binds K d_law_draw ["stream", "many"] []
  g_law_draw : mg "_law_draw" = some (.ref a_law_draw)
  a_law_params : Addr
  d_law_params : FuncData
  F_law_params : Fun K "_law_params" "_law_params" s_law_params a_law_params d_law_params
  b_law_params : Binds K d_law_params ["stream"] []
  g_law_params : mg "_law_params" = some (.ref a_law_params)
  a_law_launch : Addr
  d_law_launch : FuncData
  F_law_launch : Fun K "_law_launch" "_law_launch" s_law_launch a_law_launch d_law_launch
  b_law_launch : Binds K d_law_launch ["stream", "kernel"] []
  g_law_launch : mg "_law_launch" = some (.ref a_law_launch)
  a_law_given : Addr
  d_law_given : FuncData
  F_law_given : Fun K "_law_given" "_law_given" s_law_given a_law_given d_law_given
  b_law_given : Binds K d_law_given ["told"] []
  g_law_given : mg "_law_given" = some (.ref a_law_given)
  a_law_told : Addr
  d_law_told : FuncData
  F_law_told : Fun K "_law_told" "_law_told" s_law_told a_law_told d_law_told
  b_law_told : Binds K d_law_told ["kernel", "value"] []
  g_law_told : mg "_law_told" = some (.ref a_law_told)
  a_law_is_number : Addr
  d_law_is_number : FuncData
  F_law_is_number : Fun K "_law_is_number" "_law_is_number" s_law_is_number a_law_is_number d_law_is_number
  b_law_is_number : Binds K d_law_is_number ["value", "low", "high"] []
  g_law_is_number : mg "_law_is_number" = some (.ref a_law_is_number)
  a_law_is_word : Addr
  d_law_is_word : FuncData
  F_law_is_word : Fun K "_law_is_word" "_law_is_word" s_law_is_word a_law_is_word d_law_is_word
  b_law_is_word : Binds K d_law_is_word ["value"] []
  g_law_is_word : mg "_law_is_word" = some (.ref a_law_is_word)
  a_law_is_good : Addr
  d_law_is_good : FuncData
  F_law_is_good : Fun K "_law_is_good" "_law_is_good" s_law_is_good a_law_is_good d_law_is_good
  b_law_is_good : Binds K d_law_is_good ["kernel", "value"] []
  g_law_is_good : mg "_law_is_good" = some (.ref a_law_is_good)
  a_law_odd : Addr
  d_law_odd : FuncData
  F_law_odd : Fun K "_law_odd" "_law_odd" s_law_odd a_law_odd d_law_odd
  b_law_odd : Binds K d_law_odd ["stream"] []
  g_law_odd : mg "_law_odd" = some (.ref a_law_odd)
  a_law_changed : Addr
  d_law_changed : FuncData
  F_law_changed : Fun K "_law_changed" "_law_changed" s_law_changed a_law_changed d_law_changed
  b_law_changed : Binds K d_law_changed ["stream", "value"] []
  g_law_changed : mg "_law_changed" = some (.ref a_law_changed)
  a_law : Addr
  d_law : FuncData
  F_law : Fun K "law" "law" s_law a_law d_law
  g_law : mg "law" = some (.ref a_law)
  c_DrawloomError : Addr
  g_DrawloomError : mg "DrawloomError" = some (.ref c_DrawloomError)
  x_DrawloomError : PySem.W.excIn K c_DrawloomError [.type "ValueError", .type "Exception", .type "BaseException", .type "object"] "ValueError.__new__" = true
  k_DrawloomError : PySem.W.keepIn K (.ref c_DrawloomError) = true
  bx_DrawloomError : PySem.W.subIn K (.ref c_DrawloomError) (.type "BaseException") = some true
  ty_DrawloomError : PySem.W.typeIn K (.ref c_DrawloomError) = some (.type "type")
  hd_DrawloomError : PySem.W.hasDictIn K c_DrawloomError = true
  me_DrawloomError : PySem.W.subIn K (.ref c_DrawloomError) (.ref c_DrawloomError) = some true
  ec_DrawloomError : ExcC K c_DrawloomError
  kv_DrawloomError : PySem.W.kitOne K (.ref c_DrawloomError) (.type "ValueError") = some true
  c_BadLaunch : Addr
  g_BadLaunch : mg "BadLaunch" = some (.ref c_BadLaunch)
  x_BadLaunch : PySem.W.excIn K c_BadLaunch [.type "ValueError", .type "Exception", .type "BaseException", .type "object"] "ValueError.__new__" = true
  k_BadLaunch : PySem.W.keepIn K (.ref c_BadLaunch) = true
  bx_BadLaunch : PySem.W.subIn K (.ref c_BadLaunch) (.type "BaseException") = some true
  ty_BadLaunch : PySem.W.typeIn K (.ref c_BadLaunch) = some (.type "type")
  hd_BadLaunch : PySem.W.hasDictIn K c_BadLaunch = true
  me_BadLaunch : PySem.W.subIn K (.ref c_BadLaunch) (.ref c_BadLaunch) = some true
  ec_BadLaunch : ExcC K c_BadLaunch
  kv_BadLaunch : PySem.W.kitOne K (.ref c_BadLaunch) (.type "ValueError") = some true
  kk_BadLaunch_DrawloomError : PySem.W.kitOne K (.ref c_BadLaunch) (.ref c_DrawloomError) = some true
  z_ValueError : mg "ValueError" = none
  z_abs : mg "abs" = none
  z_all : mg "all" = none
  z_bool : mg "bool" = none
  z_int : mg "int" = none
  z_isinstance : mg "isinstance" = none
  z_len : mg "len" = none
  z_list : mg "list" = none
  z_range : mg "range" = none
  z_tuple : mg "tuple" = none
  z_zip : mg "zip" = none
  q_LEAST : ∃ u, mg "LEAST" = some u ∧ RelV (.int (-2147483648)) u
  q_GREATEST : ∃ u, mg "GREATEST" = some u ∧ RelV (.int (2147483647)) u
  q_MOST_BLOCKS : ∃ u, mg "MOST_BLOCKS" = some u ∧ RelV (.int (4)) u
  q_MOST_THREADS : ∃ u, mg "MOST_THREADS" = some u ∧ RelV (.int (8)) u
  q_MOST_BUFFERS : ∃ u, mg "MOST_BUFFERS" = some u ∧ RelV (.int (4)) u
  q_MOST_BUFFER_CELLS : ∃ u, mg "MOST_BUFFER_CELLS" = some u ∧ RelV (.int (24)) u

/-! ### launches as data -/
def numIn (lo hi : Int) : PyData → Bool
  | .int i => decide (lo ≤ i) && decide (i ≤ hi)
  | _ => false
def tupIn (lo hi : Int) : PyData → Bool
  | .tuple xs => decide (lo ≤ (xs.length : Int)) && decide ((xs.length : Int) ≤ hi)
  | _ => false
def wordD (d : PyData) : Bool := numIn (-2147483648) 2147483647 d
def bufD : PyData → Bool
  | .tuple xs => decide (xs.length ≤ 24) && xs.all wordD
  | _ => false
def argD (b : Bool) (many : Int) (d : PyData) : Bool := if b then wordD d else numIn 0 (many - 1) d
def argsAll (many : Int) : List Bool → List PyData → Bool
  | [], [] => true
  | b :: bs, d :: ds => argD b many d && argsAll many bs ds
  | _, _ => false
def argsD (bs : List Bool) (many : Int) : PyData → Bool
  | .tuple xs => argsAll many bs xs
  | _ => false
def sortS (b : Bool) : Str := if b then "int" else "buffer"
def pairD (p : Str × Bool) : PyData := .tuple [.str p.1, .str (sortS p.2)]
def launchD (bs : List Bool) : PyData → Bool
  | .tuple [g, b, as, .tuple bufs] => numIn 1 4 g && numIn 1 8 b && decide (bufs.length ≤ 4) && bufs.all bufD && argsD bs (bufs.length : Int) as
  | _ => false
theorem argsAll_len {many : Int} : ∀ {bs : List Bool} {ds : List PyData}, argsAll many bs ds = true → ds.length = bs.length
  | [], [], _ => rfl
  | [], _ :: _, h => by cases h
  | _ :: _, [], h => by cases h
  | b :: bs, d :: ds, h => by
    unfold argsAll at h
    rw [Bool.and_eq_true] at h
    exact congrArg (· + 1) (argsAll_len h.2)
theorem same_new5 {H : Hp} {p : Addr} {o : HO} (h : H p = none) : Same H (upd H p o) := fun b x e => by
  rw [upd_ne (ne_of_none e h)]
  exact e
def spD (K : PySem.W.Frag) (f : PyData → Bool) : Sp := fun vs H Q _ => ∃ (v : V) (d : PyData), vs = [v] ∧ Dp K H v d ∧ ∀ H', Same H H' → Q (.bl (f d)) H'
def spD2 (K : PySem.W.Frag) (f : Int → Int → PyData → Bool) : Sp := fun vs H Q _ => ∃ (v : V) (d : PyData) (lo hi : Int), vs = [v, .int lo, .int hi] ∧ Dp K H v d ∧ Q (.bl (f lo hi d)) H
section
variable {P : Program} {w : World} {K : PySem.W.Frag} {mg : Str → Option Value} {base : Heap}
theorem ok_is_between (T : Tx w K mg) : FnOk P w K mg base CX0 1 T.a_is_between T.d_is_between ["value", "least", "most"] (spD2 K numIn) := by
  refine T.F_is_between.ok sc_is_between (fun vs H Q E h => ?_) (fun cdv A outer s H vs Q E hr h => ?_)
  · obtain ⟨v, d, lo, hi, rfl, _⟩ := h
    rfl
  · obtain ⟨v, d, lo, hi, rfl, hd, q⟩ := h
    refine ⟨_, (pss_cons (ps_if (PW.pt (pw_or (pt_not (pt_val (pe_callB call_isi (by rfl) T.z_isinstance (by decide +kernel) (pa_cons (pv 0) (pa_cons (pe_bltn (v := .ty "int") (u := .type "int") (by rfl) T.z_int (by decide +kernel) rfl) pa_nil))))) (pw_or1 (pt_val (pe_callB call_isi (by rfl) T.z_isinstance (by decide +kernel) (pa_cons (pv 0) (pa_cons (pe_bltn (v := .ty "bool") (u := .type "bool") (by rfl) T.z_bool (by decide +kernel) rfl) pa_nil))))))) (pss_one (ps_ret pe_bl)) pss_nil)
      (pss_one (ps_ret (pe_chain op_le op_le (pv 1) (pv 0) (pv 2))))), ?_⟩
    refine ⟨_, rfl, _, _, _, _, _, rfl, .ty "int", hd.tyx, kit_int d, _, rfl, ?_⟩
    cases hd with
    | int i =>
      refine ⟨_, rfl, _, _, _, _, _, rfl, .ty "bool", .base (.int i), kit_bool (.int i), _, rfl, iteF ?_⟩
      refine ⟨_, rfl, _, rfl, _, _, rfl, rfl, _, rfl, ?_⟩
      by_cases h1 : lo ≤ i
      · rw [decide_eq_true h1]
        refine iteT ⟨_, rfl, _, _, rfl, rfl, ?_⟩
        have e : numIn lo hi (.int i) = decide (i ≤ hi) := by show (decide (lo ≤ i) && decide (i ≤ hi)) = _; rw [decide_eq_true h1, Bool.true_and]
        rw [e] at q
        exact q
      · rw [decide_eq_false h1]
        have e : numIn lo hi (.int i) = false := by show (decide (lo ≤ i) && decide (i ≤ hi)) = _; rw [decide_eq_false h1, Bool.false_and]
        rw [e] at q
        exact iteF q
    | bl b => exact ⟨_, rfl, _, _, _, _, _, rfl, .ty "bool", .base (.bl b), kit_bool (.bool b), _, rfl, q⟩
    | non => exact q
    | str x => exact q
    | lst h r => exact q
    | tup h r => exact q
theorem ok_is_word (T : Tx w K mg) : FnOk P w K mg base CX0 2 T.a_is_word T.d_is_word ["value"] (spD K wordD) := by
  refine T.F_is_word.ok sc_is_word (fun vs H Q E h => ?_) (fun cdv A outer s H vs Q E hr h => ?_)
  · obtain ⟨v, d, rfl, _⟩ := h
    rfl
  · obtain ⟨v, d, rfl, hd, q⟩ := h
    refine ⟨_, (pss_one (ps_ret (pe_call (ok_is_between T) (hr.mono (by decide)) (by rfl) T.g_is_between T.F_is_between.kp T.b_is_between .nil pass0 (pa_cons (pv 0) (pa_cons (pe_gq (by rfl) T.q_LEAST) (pa_cons (pe_gq (by rfl) T.q_GREATEST) pa_nil)))))), ?_⟩
    exact ⟨_, rfl, v, d, _, _, rfl, hd, q _ (.refl H)⟩
theorem ok_is_tuple (T : Tx w K mg) : FnOk P w K mg base CX0 1 T.a_is_tuple T.d_is_tuple ["value", "least", "most"] (spD2 K tupIn) := by
  refine T.F_is_tuple.ok sc_is_tuple (fun vs H Q E h => ?_) (fun cdv A outer s H vs Q E hr h => ?_)
  · obtain ⟨v, d, lo, hi, rfl, _⟩ := h
    rfl
  · obtain ⟨v, d, lo, hi, rfl, hd, q⟩ := h
    refine ⟨_, (pss_one (ps_ret (pe_and (pe_callB call_isi (by rfl) T.z_isinstance (by decide +kernel) (pa_cons (pv 0) (pa_cons (pe_bltn (v := .ty "tuple") (u := .type "tuple") (by rfl) T.z_tuple (by decide +kernel) rfl) pa_nil))) (pe_one (pe_chain op_le op_le (pv 1) (pe_callB call_len_seq (by rfl) T.z_len (by decide +kernel) (pa_cons (pv 0) pa_nil)) (pv 2)))))), ?_⟩
    refine ⟨_, rfl, _, _, _, _, _, rfl, .ty "tuple", hd.tyx, kit_tup d, _, rfl, ?_⟩
    cases hd with
    | @tup a xs ds h r =>
      have el : (xs.length : Int) = (ds.length : Int) := by rw [r.len]
      refine iteT ⟨_, rfl, _, rfl, a, xs, rfl, .inr h, _, _, rfl, rfl, _, rfl, ?_⟩
      by_cases h1 : lo ≤ (xs.length : Int)
      · rw [decide_eq_true h1]
        refine iteT ⟨_, rfl, _, _, rfl, rfl, ?_⟩
        have e : tupIn lo hi (.tuple ds) = decide ((xs.length : Int) ≤ hi) := by show (decide (lo ≤ (ds.length : Int)) && decide ((ds.length : Int) ≤ hi)) = _; rw [← el, decide_eq_true h1, Bool.true_and]
        rw [e] at q
        exact q
      · rw [decide_eq_false h1]
        have e : tupIn lo hi (.tuple ds) = false := by show (decide (lo ≤ (ds.length : Int)) && decide ((ds.length : Int) ≤ hi)) = _; rw [← el, decide_eq_false h1, Bool.false_and]
        rw [e] at q
        exact iteF q
    | int i => exact q
    | bl b => exact q
    | non => exact q
    | str x => exact q
    | lst h r => exact q
/-- the bools that a comprehension has made so far -/
theorem bools_snoc {xs : List PyData} {f : PyData → Bool} {i : Nat} {d : PyData} (h : xs[i]? = some d) : ((xs.take (i + 1)).map fun d => V.bl (f d)) = ((xs.take i).map fun d => V.bl (f d)) ++ [V.bl (f d)] := by
  rw [List.take_add_one, h, List.map_append]
  rfl
theorem all_bools (xs : List PyData) (f : PyData → Bool) : (xs.map f).all id = xs.all f := by
  induction xs with
  | nil => rfl
  | cons x r ih => rw [List.map_cons, List.all_cons, List.all_cons, ih]; rfl
theorem ok_is_buffer (T : Tx w K mg) : FnOk P w K mg base CX0 3 T.a_is_buffer T.d_is_buffer ["value"] (spD K bufD) := by
  refine T.F_is_buffer.ok sc_is_buffer (fun vs H Q E h => ?_) (fun cdv A outer s H vs Q E hr h => ?_)
  · obtain ⟨v, d, rfl, _⟩ := h
    rfl
  · obtain ⟨v, d, rfl, hd, q⟩ := h
    refine ⟨_, (pss_one (ps_ret (pe_and (pe_call (ok_is_tuple T) (hr.mono (by decide)) (by rfl) T.g_is_tuple T.F_is_tuple.kp T.b_is_tuple .nil pass0 (pa_cons (pv 0) (pa_cons pe_int (pa_cons (pe_gq (by rfl) T.q_MOST_BUFFER_CELLS) pa_nil)))) (pe_one (pe_callB (cr_all rfl) (by rfl) T.z_all (by decide +kernel) (pa_cons (pe_lc (own := [("word", 1)]) (g := gName 1) (tt := tYes) rfl sc_is_buffer.nd (pi_tup (pv 0)) (blkOk_by (N := ["value", "word"]) (sc := defScope s_is_buffer) (by decide +kernel)) (fun _ _ _ _ _ => (pg_name (i := 1) sc_is_buffer.nd rfl (.inl rfl))) (fun _ _ _ _ _ => pts_nil) (fun _ _ _ _ _ => (pe_call (ok_is_word T) (hr.mono (by decide)) (by rfl) T.g_is_word T.F_is_word.kp T.b_is_word .nil pass0 (pa_cons (pv 1) pa_nil)))) pa_nil)))))), ?_⟩
    refine ⟨_, rfl, v, d, 0, 24, rfl, hd, _, rfl, ?_⟩
    have nope : tupIn 0 24 d = false → bufD d = false := fun h => by
      cases d with
      | tuple xs =>
        replace h : (decide ((0 : Int) ≤ (xs.length : Int)) && decide ((xs.length : Int) ≤ 24)) = false := h
        show (decide (xs.length ≤ 24) && xs.all wordD) = false
        rw [decide_eq_true (by omega : (0 : Int) ≤ (xs.length : Int)), Bool.true_and] at h
        have h2 := of_decide_eq_false h
        rw [decide_eq_false (by omega), Bool.false_and]
      | _ => rfl
    by_cases ht : tupIn 0 24 d = true
    · rw [ht]
      obtain ⟨xs, rfl⟩ : ∃ xs, d = .tuple xs := by cases d <;> first | exact ⟨_, rfl⟩ | cases ht
      have h24 : xs.length ≤ 24 := by
        replace ht : (decide ((0 : Int) ≤ (xs.length : Int)) && decide ((xs.length : Int) ≤ 24)) = true := ht
        rw [Bool.and_eq_true] at ht
        have := of_decide_eq_true ht.2
        omega
      cases hd with
      | @tup a vs ds h r =>
      refine iteT ⟨_, rfl, a, rfl, ⟨_, h⟩, fun D nD => lc_tup (K := K) (a := a) (xs := vs) (fun i H' => H' D = some (.lst ((xs.take i).map fun d => V.bl (wordD d))) ∧ i ≤ 24 ∧ Same H H') ⟨upd_same, by decide, fun c o e => by rw [upd_ne (ne_of_none e nD)]; exact e⟩ (fun i H' _ ⟨_, _, e⟩ => Same.sqt e h) ?_ ?_⟩
      · rintro i x H1 hx ⟨eD, hi, sm⟩
        obtain ⟨d, ed, pd⟩ := r.get hx
        have hi2 : i < xs.length := (List.getElem?_eq_some_iff.mp ed).1
        refine ⟨rfl, _, rfl, x, d, rfl, pd.same sm, fun H2 s2 => ?_⟩
        refine ⟨_, s2 _ _ eD, ?_, ?_, by omega, fun c o e => ?_⟩
        · rw [List.length_map]; exact small1000 (by rw [List.length_take]; omega)
        · rw [upd_same, bools_snoc ed]
        · rw [upd_ne (ne_of_none e nD)]; exact s2 _ _ (sm _ _ e)
      · rintro H1 ⟨eD, hi, sm⟩
        rw [r.len, List.take_length] at eD
        refine ⟨D, xs.map wordD, rfl, SqL.of (by rw [List.map_map]; exact eD), ?_⟩
        rw [all_bools]
        have e : bufD (.tuple xs) = xs.all wordD := by show (decide (xs.length ≤ 24) && xs.all wordD) = _; rw [decide_eq_true h24, Bool.true_and]
        rw [← e]
        exact q _ sm
    · have hf := Bool.eq_false_iff.mpr ht
      rw [hf]
      have e := nope hf
      rw [e] at q
      exact iteF (q _ (.refl H))

def sp_is_argument (K : PySem.W.Frag) : Sp := fun vs H Q _ => ∃ (b : Bool) (v : V) (d : PyData) (many : Int), vs = [.str (sortS b), v, .int many] ∧ Dp K H v d ∧ ∀ H', Same H H' → Q (.bl (argD b many d)) H'
theorem sort_int (b : Bool) : decide (V.str (sortS b) = V.str "int") = b := by
  cases b <;> decide +kernel
theorem ok_is_argument (T : Tx w K mg) : FnOk P w K mg base CX0 3 T.a_is_argument T.d_is_argument ["sort", "value", "many"] (sp_is_argument K) := by
  refine T.F_is_argument.ok sc_is_argument (fun vs H Q E h => ?_) (fun cdv A outer s H vs Q E hr h => ?_)
  · obtain ⟨b, v, d, many, rfl, _⟩ := h
    rfl
  · obtain ⟨b, v, d, many, rfl, hd, q⟩ := h
    refine ⟨_, (pss_cons (ps_if (pt_cmpR op_eq (pv 0) pe_str (nomark _)) (pss_one (ps_ret (pe_call (ok_is_word T) (hr.mono (by decide)) (by rfl) T.g_is_word T.F_is_word.kp T.b_is_word .nil pass0 (pa_cons (pv 1) pa_nil)))) pss_nil)
      (pss_one (ps_ret (pe_call (ok_is_between T) (hr.mono (by decide)) (by rfl) T.g_is_between T.F_is_between.kp T.b_is_between .nil pass0 (pa_cons (pv 1) (pa_cons pe_int (pa_cons (pe_op op_sub (pv 2) pe_int) pa_nil))))))), ?_⟩
    refine ⟨_, rfl, rfl, _, rfl, ?_⟩
    rw [sort_int]
    cases b with
    | true => exact iteT ⟨_, rfl, v, d, rfl, hd, q⟩
    | false => exact iteF ⟨_, rfl, _, rfl, _, _, rfl, rfl, v, d, _, _, rfl, hd, q _ (.refl H)⟩
def sp_are_arguments (K : PySem.W.Frag) : Sp := fun vs H Q _ => ∃ (v wv : V) (d : PyData) (ps : List (Str × Bool)) (many : Int), vs = [v, wv, .int many] ∧ Dp K H v d ∧ Dp K H wv (.tuple (ps.map pairD)) ∧ ∀ H', Same H H' → Q (.bl (argsD (ps.map (·.2)) many d)) H'
theorem argsAll_drop (many : Int) : ∀ (ps : List Bool) (xs : List PyData) (i : Nat) (b : Bool) (d : PyData), ps[i]? = some b → xs[i]? = some d → argsAll many (ps.drop i) (xs.drop i) = (argD b many d && argsAll many (ps.drop (i + 1)) (xs.drop (i + 1)))
  | p :: ps, x :: xs, 0, b, d, h1, h2 => by
    cases h1
    cases h2
    rfl
  | p :: ps, x :: xs, i + 1, b, d, h1, h2 => argsAll_drop many ps xs i b d h1 h2
  | [], _, _, _, _, h, _ => by simp at h
  | _ :: _, [], _, _, _, _, h => by simp at h
theorem ok_are_arguments (T : Tx w K mg) : FnOk P w K mg base CX0 4 T.a_are_arguments T.d_are_arguments ["value", "params", "many"] (sp_are_arguments K) := by
  refine T.F_are_arguments.ok sc_are_arguments (fun vs H Q E h => ?_) (fun cdv A outer s H vs Q E hr h => ?_)
  · obtain ⟨v, wv, d, ps, many, rfl, _⟩ := h
    rfl
  · obtain ⟨v, wv, d, ps, many, rfl, hd, hp, q⟩ := h
    refine ⟨_, (pss_cons (ps_if (pt_not (pt_val (pe_call (ok_is_tuple T) (hr.mono (by decide)) (by rfl) T.g_is_tuple T.F_is_tuple.kp T.b_is_tuple .nil pass0 (pa_cons (pv 0) (pa_cons (pe_callB call_len_seq (by rfl) T.z_len (by decide +kernel) (pa_cons (pv 1) pa_nil)) (pa_cons (pe_callB call_len_seq (by rfl) T.z_len (by decide +kernel) (pa_cons (pv 1) pa_nil)) pa_nil)))))) (pss_one (ps_ret pe_bl)) pss_nil)
      (pss_cons (ps_for PassesOwn.never rfl (RZ.pi_zipA (by rfl) T.z_zip (pa_cons (pv 1) (pa_cons (pv 0) pa_nil))) (pg_tup rfl (pgs_cons (pg_tup rfl (pgs_cons (pg_name (i := 3) sc_are_arguments.nd rfl (.inl rfl)) (pgs_cons (pg_name (i := 4) sc_are_arguments.nd rfl (.inl rfl)) pgs_nil))) (pgs_cons (pg_name (i := 5) sc_are_arguments.nd rfl (.inl rfl)) pgs_nil))) (pss_one (ps_if (pt_not (pt_val (pe_call (ok_is_argument T) (hr.mono (by decide)) (by rfl) T.g_is_argument T.F_is_argument.kp T.b_is_argument .nil pass0 (pa_cons (pv 4) (pa_cons (pv 5) (pa_cons (pv 2) pa_nil)))))) (pss_one (ps_ret pe_bl)) pss_nil)))
      (pss_one (ps_ret pe_bl)))), ?_⟩
    cases hp with
    | @tup ap pvs pds hpt hpr =>
    have epl : pvs.length = ps.length := by rw [hpr.len, List.length_map]
    refine ⟨_, rfl, _, rfl, ap, _, rfl, .inr hpt, _, rfl, ap, _, rfl, .inr hpt, v, d, _, _, rfl, hd, _, rfl, ?_⟩
    rw [epl]
    by_cases ht : tupIn (ps.length : Int) (ps.length : Int) d = true
    · rw [ht]
      obtain ⟨xs, rfl⟩ : ∃ xs, d = .tuple xs := by cases d <;> first | exact ⟨_, rfl⟩ | cases ht
      have hxl : xs.length = ps.length := by
        replace ht : (decide ((ps.length : Int) ≤ (xs.length : Int)) && decide ((xs.length : Int) ≤ (ps.length : Int))) = true := ht
        rw [Bool.and_eq_true] at ht
        have a1 := of_decide_eq_true ht.1
        have a2 := of_decide_eq_true ht.2
        omega
      cases hd with
      | @tup a us ds h r =>
      have eul : us.length = xs.length := r.len
      refine iteF ⟨_, rfl, _, rfl, ap, a, _, _, rfl, .inr ⟨hpt, h, RZ.for_zipT (K := K) (a := ap) (b := a) (xs := pvs) (ys := us) (by omega) (fun i σ H' => ∃ y3 y4 y5 : Option V, σ = [some (.ref a), some (.ref ap), some (.int many), y3, y4, y5] ∧ argsAll many (ps.map (·.2)) xs = argsAll many ((ps.map (·.2)).drop i) (xs.drop i) ∧ Same H H') ⟨none, none, none, rfl, rfl, .refl H⟩ (fun i σ H' ⟨_, _, _, _, _, e⟩ => ⟨Same.sqt e hpt, Same.sqt e h⟩) ?_ ?_⟩⟩
      · rintro i x y t σ H1 hx hy ⟨y3, y4, y5, rfl, ea, sm⟩ nt
        obtain ⟨dx, edx, pdx⟩ := hpr.get hx
        obtain ⟨dy, edy, pdy⟩ := r.get hy
        rw [List.getElem?_map] at edx
        obtain ⟨pr, epr, rfl⟩ := Option.map_eq_some_iff.mp edx
        have s1 := sm.trans (same_new5 (o := .tup [x, y]) nt)
        cases pdx with
        | @tup ax axs axd hax hr2 =>
        cases hr2 with
        | cons c1 c2 =>
        cases c1 with
        | str n =>
        cases c2 with
        | cons c3 c4 =>
        cases c3 with
        | str n2 =>
        cases c4 with
        | nil =>
        refine ⟨t, _, rfl, SqT.of upd_same, rfl, _, _, rfl, ?_⟩
        refine ⟨ax, _, rfl, Same.sqt s1 hax, rfl, _, _, rfl, _, _, rfl, rfl, _, _, rfl, rfl, ?_⟩
        refine ⟨_, rfl, _, rfl, _, rfl, pr.2, y, dy, many, rfl, pdy.same s1, fun H2 s2 => ⟨_, rfl, ?_⟩⟩
        have hb : (ps.map (·.2))[i]? = some pr.2 := by rw [List.getElem?_map, epr]; rfl
        have ed := argsAll_drop many _ _ i pr.2 dy hb edy
        by_cases hg : argD pr.2 many dy = true
        · rw [hg]
          refine iteF ⟨_, _, _, rfl, ?_, s1.trans s2⟩
          rw [ea, ed, hg, Bool.true_and]
        · rw [Bool.eq_false_iff.mpr hg]
          have e : argsD (ps.map (·.2)) many (.tuple xs) = false := by
            show argsAll many (ps.map (·.2)) xs = false
            rw [ea, ed, Bool.eq_false_iff.mpr hg, Bool.false_and]
          rw [e] at q
          exact iteT (q _ (s1.trans s2))
      · rintro σ H1 ⟨y3, y4, y5, rfl, ea, sm⟩
        have e : argsD (ps.map (·.2)) many (.tuple xs) = true := by
          show argsAll many (ps.map (·.2)) xs = true
          rw [ea, List.drop_of_length_le (by rw [List.length_map]; omega), List.drop_of_length_le (by omega)]
          rfl
        rw [e] at q
        exact q _ sm
    · rw [Bool.eq_false_iff.mpr ht]
      have e : argsD (ps.map (·.2)) many d = false := by
        cases d with
        | tuple xs =>
          cases e : argsAll many (ps.map (·.2)) xs with
          | false => exact e
          | true =>
            have := argsAll_len e
            rw [List.length_map] at this
            exact absurd (show (decide ((ps.length : Int) ≤ (xs.length : Int)) && decide ((xs.length : Int) ≤ (ps.length : Int))) = true by rw [decide_eq_true (by omega), decide_eq_true (by omega)]; rfl) ht
        | _ => rfl
      rw [e] at q
      exact iteT (q _ (.refl H))
def sp_is_launch (K : PySem.W.Frag) : Sp := fun vs H Q _ => ∃ (v wv : V) (d : PyData) (ps : List (Str × Bool)), vs = [wv, v] ∧ Dp K H v d ∧ Dp K H wv (.tuple (ps.map pairD)) ∧ ∀ H', Same H H' → Q (.bl (launchD (ps.map (·.2)) d)) H'
theorem tup4 {d : PyData} (h : tupIn 4 4 d = true) : ∃ g b a u, d = .tuple [g, b, a, u] := by
  cases d with
  | tuple xs =>
    replace h : (decide ((4 : Int) ≤ (xs.length : Int)) && decide ((xs.length : Int) ≤ 4)) = true := h
    rw [Bool.and_eq_true] at h
    have a1 := of_decide_eq_true h.1
    have a2 := of_decide_eq_true h.2
    match xs, a1, a2 with
    | [g, b, a, u], _, _ => exact ⟨g, b, a, u, rfl⟩
    | [], h, _ => exact absurd h (by show ¬ (4 : Int) ≤ 0; decide)
    | [_], h, _ => exact absurd h (by show ¬ (4 : Int) ≤ 1; decide)
    | [_, _], h, _ => exact absurd h (by show ¬ (4 : Int) ≤ 2; decide)
    | [_, _, _], h, _ => exact absurd h (by show ¬ (4 : Int) ≤ 3; decide)
    | _ :: _ :: _ :: _ :: _ :: r, _, h =>
      rw [List.length_cons, List.length_cons, List.length_cons, List.length_cons, List.length_cons] at h
      omega
  | _ => cases h
theorem ok_is_launch (T : Tx w K mg) : FnOk P w K mg base CX0 5 T.a_is_launch T.d_is_launch ["params", "value"] (sp_is_launch K) := by
  refine T.F_is_launch.ok sc_is_launch (fun vs H Q E h => ?_) (fun cdv A outer s H vs Q E hr h => ?_)
  · obtain ⟨v, wv, d, ps, rfl, _⟩ := h
    rfl
  · obtain ⟨v, wv, d, ps, rfl, hd, hp, q⟩ := h
    refine ⟨_, (pss_cons (ps_if (pt_not (pt_val (pe_call (ok_is_tuple T) (hr.mono (by decide)) (by rfl) T.g_is_tuple T.F_is_tuple.kp T.b_is_tuple .nil pass0 (pa_cons (pv 1) (pa_cons pe_int (pa_cons pe_int pa_nil)))))) (pss_one (ps_ret pe_bl)) pss_nil)
      (pss_cons (ps_asg (pv 1) (pg_tup rfl (pgs_cons (pg_name (i := 2) sc_is_launch.nd rfl (.inl rfl)) (pgs_cons (pg_name (i := 3) sc_is_launch.nd rfl (.inl rfl)) (pgs_cons (pg_name (i := 4) sc_is_launch.nd rfl (.inl rfl)) (pgs_cons (pg_name (i := 5) sc_is_launch.nd rfl (.inl rfl)) pgs_nil))))))
      (pss_cons (ps_if (PW.pt (pw_or (pt_not (pt_val (pe_call (ok_is_between T) (hr.mono (by decide)) (by rfl) T.g_is_between T.F_is_between.kp T.b_is_between .nil pass0 (pa_cons (pv 2) (pa_cons pe_int (pa_cons (pe_gq (by rfl) T.q_MOST_BLOCKS) pa_nil)))))) (pw_or1 (pt_not (pt_val (pe_call (ok_is_between T) (hr.mono (by decide)) (by rfl) T.g_is_between T.F_is_between.kp T.b_is_between .nil pass0 (pa_cons (pv 3) (pa_cons pe_int (pa_cons (pe_gq (by rfl) T.q_MOST_THREADS) pa_nil))))))))) (pss_one (ps_ret pe_bl)) pss_nil)
      (pss_cons (ps_if (pt_not (pt_val (pe_call (ok_is_tuple T) (hr.mono (by decide)) (by rfl) T.g_is_tuple T.F_is_tuple.kp T.b_is_tuple .nil pass0 (pa_cons (pv 5) (pa_cons pe_int (pa_cons (pe_gq (by rfl) T.q_MOST_BUFFERS) pa_nil)))))) (pss_one (ps_ret pe_bl)) pss_nil)
      (pss_cons (ps_if (pt_not (pt_val (pe_callB (cr_all rfl) (by rfl) T.z_all (by decide +kernel) (pa_cons (pe_lc (own := [("buffer", 6)]) (g := gName 6) (tt := tYes) rfl sc_is_launch.nd (pi_tup (pv 5)) (blkOk_by (N := ["params", "value", "grid", "block", "arguments", "buffers", "buffer"]) (sc := defScope s_is_launch) (by decide +kernel)) (fun _ _ _ _ _ => (pg_name (i := 6) sc_is_launch.nd rfl (.inl rfl))) (fun _ _ _ _ _ => pts_nil) (fun _ _ _ _ _ => (pe_call (ok_is_buffer T) (hr.mono (by decide)) (by rfl) T.g_is_buffer T.F_is_buffer.kp T.b_is_buffer .nil pass0 (pa_cons (pv 6) pa_nil)))) pa_nil)))) (pss_one (ps_ret pe_bl)) pss_nil)
      (pss_one (ps_ret (pe_call (ok_are_arguments T) (hr.mono (by decide)) (by rfl) T.g_are_arguments T.F_are_arguments.kp T.b_are_arguments .nil pass0 (pa_cons (pv 4) (pa_cons (pv 0) (pa_cons (pe_callB call_len_seq (by rfl) T.z_len (by decide +kernel) (pa_cons (pv 5) pa_nil)) pa_nil))))))))))), ?_⟩
    refine ⟨_, rfl, v, d, 4, 4, rfl, hd, _, rfl, ?_⟩
    by_cases h4 : tupIn 4 4 d = true
    · rw [h4]
      obtain ⟨g, b, as, us, rfl⟩ := tup4 h4
      cases hd with
      | @tup a vs ds h r =>
      cases r with
      | @cons vg _ _ _ dg r =>
      cases r with
      | @cons vb _ _ _ db r =>
      cases r with
      | @cons va _ _ _ da r =>
      cases r with
      | @cons vu _ _ _ du r =>
      cases r with
      | nil =>
      refine iteF ⟨_, rfl, a, _, rfl, h, rfl, _, _, rfl, _, _, rfl, _, _, rfl, _, _, rfl, rfl, ?_⟩
      refine ⟨_, rfl, vg, g, 1, 4, rfl, dg, _, rfl, ?_⟩
      by_cases hg : numIn 1 4 g = true
      · rw [hg]
        refine iteF ⟨_, rfl, vb, b, 1, 8, rfl, db, _, rfl, ?_⟩
        by_cases hb : numIn 1 8 b = true
        · rw [hb]
          refine iteF ⟨_, rfl, vu, us, 0, 4, rfl, du, _, rfl, ?_⟩
          by_cases hu : tupIn 0 4 us = true
          · rw [hu]
            obtain ⟨bufs, rfl⟩ : ∃ bufs, us = .tuple bufs := by cases us <;> first | exact ⟨_, rfl⟩ | cases hu
            have h4b : bufs.length ≤ 4 := by
              replace hu : (decide ((0 : Int) ≤ (bufs.length : Int)) && decide ((bufs.length : Int) ≤ 4)) = true := hu
              rw [Bool.and_eq_true] at hu
              have := of_decide_eq_true hu.2
              omega
            cases du with
            | @tup au uvs uds hau rau =>
            have eul : uvs.length = bufs.length := rau.len
            refine iteF ⟨_, rfl, au, rfl, ⟨_, hau⟩, fun D nD => lc_tup (K := K) (a := au) (xs := uvs) (fun i H' => H' D = some (.lst ((bufs.take i).map fun d => V.bl (bufD d))) ∧ i ≤ 4 ∧ Same H H') ⟨upd_same, by decide, fun c o e => by rw [upd_ne (ne_of_none e nD)]; exact e⟩ (fun i H' _ ⟨_, _, e⟩ => Same.sqt e hau) ?_ ?_⟩
            · rintro i x H1 hx ⟨eD, hi, sm⟩
              obtain ⟨d, ed, pd⟩ := rau.get hx
              have hi2 : i < bufs.length := (List.getElem?_eq_some_iff.mp ed).1
              refine ⟨rfl, _, rfl, x, d, rfl, pd.same sm, fun H2 s2 => ?_⟩
              refine ⟨_, s2 _ _ eD, ?_, ?_, by omega, fun c o e => ?_⟩
              · rw [List.length_map]; exact small1000 (by rw [List.length_take]; omega)
              · rw [upd_same, bools_snoc ed]
              · rw [upd_ne (ne_of_none e nD)]; exact s2 _ _ (sm _ _ e)
            · rintro H1 ⟨eD, hi, sm⟩
              rw [eul, List.take_length] at eD
              refine ⟨D, bufs.map bufD, rfl, SqL.of (by rw [List.map_map]; exact eD), _, rfl, ?_⟩
              rw [all_bools]
              have e0 : launchD (ps.map (·.2)) (.tuple [g, b, as, .tuple bufs]) = (numIn 1 4 g && numIn 1 8 b && decide (bufs.length ≤ 4) && bufs.all bufD && argsD (ps.map (·.2)) (bufs.length : Int) as) := rfl
              rw [hg, hb, decide_eq_true h4b, Bool.true_and, Bool.true_and] at e0
              by_cases ha : bufs.all bufD = true
              · rw [ha, Bool.true_and] at e0
                rw [ha]
                rw [e0] at q
                refine iteF ⟨_, rfl, _, rfl, _, rfl, au, _, rfl, .inr (Same.sqt sm hau), ?_⟩
                rw [eul]
                exact ⟨va, wv, as, ps, _, rfl, da.same sm, hp.same sm, fun H2 s2 => q _ (sm.trans s2)⟩
              · rw [Bool.eq_false_iff.mpr ha, Bool.true_and, Bool.false_and] at e0
                rw [Bool.eq_false_iff.mpr ha]
                rw [e0] at q
                exact iteT (q _ sm)
          · rw [Bool.eq_false_iff.mpr hu]
            have e : launchD (ps.map (·.2)) (.tuple [g, b, as, us]) = false := by
              cases us with
              | tuple bufs =>
                show (numIn 1 4 g && numIn 1 8 b && decide (bufs.length ≤ 4) && bufs.all bufD && argsD (ps.map (·.2)) (bufs.length : Int) as) = false
                have : ¬ bufs.length ≤ 4 := fun z => hu (by
                  show (decide ((0 : Int) ≤ (bufs.length : Int)) && decide ((bufs.length : Int) ≤ 4)) = true
                  rw [decide_eq_true (by omega), decide_eq_true (by omega)]; rfl)
                rw [decide_eq_false this]
                simp
              | _ => rfl
            rw [e] at q
            exact iteT (q _ (.refl H))
        · rw [Bool.eq_false_iff.mpr hb]
          have e : launchD (ps.map (·.2)) (.tuple [g, b, as, us]) = false := by
            cases us with
            | tuple bufs =>
              show (numIn 1 4 g && numIn 1 8 b && decide (bufs.length ≤ 4) && bufs.all bufD && argsD (ps.map (·.2)) (bufs.length : Int) as) = false
              rw [Bool.eq_false_iff.mpr hb]; simp
            | _ => rfl
          rw [e] at q
          exact iteT (q _ (.refl H))
      · rw [Bool.eq_false_iff.mpr hg]
        have e : launchD (ps.map (·.2)) (.tuple [g, b, as, us]) = false := by
          cases us with
          | tuple bufs =>
            show (numIn 1 4 g && numIn 1 8 b && decide (bufs.length ≤ 4) && bufs.all bufD && argsD (ps.map (·.2)) (bufs.length : Int) as) = false
            rw [Bool.eq_false_iff.mpr hg]; simp
          | _ => rfl
        rw [e] at q
        exact iteT (q _ (.refl H))
    · rw [Bool.eq_false_iff.mpr h4]
      have e : launchD (ps.map (·.2)) d = false := by
        unfold launchD
        split
        · exact absurd rfl h4
        · rfl
      rw [e] at q
      exact iteT (q _ (.refl H))
/-- a kernel, a flow graph, code: what begins with its params -/
def sp_check_launch (K : PySem.W.Frag) (C : Addr) : Sp := fun vs H Q E => ∃ (v kv : V) (d : PyData) (ps : List (Str × Bool)) (rest : List PyData), vs = [kv, v] ∧ Dp K H v d ∧ Dp K H kv (.tuple (.tuple (ps.map pairD) :: rest)) ∧
  (launchD (ps.map (·.2)) d = true → ∀ H', Same H H' → Q .non H') ∧ (launchD (ps.map (·.2)) d = false → ∀ H', Same H H' → E (.ref C) none H')
theorem ok_check_launch (T : Tx w K mg) : FnOk P w K mg base (L2.CX P w) 6 T.a_check_launch T.d_check_launch ["kernel", "value"] (sp_check_launch K T.c_BadLaunch) := by
  refine T.F_check_launch.okX sc_check_launch (fun vs H Q E h => ?_) (fun cdv A outer s H vs Q E hr h => ?_)
  · obtain ⟨v, kv, d, ps, rest, rfl, _⟩ := h
    rfl
  · obtain ⟨v, kv, d, ps, rest, rfl, hd, hk, q1, q2⟩ := h
    refine ⟨_, (pss_one (ps_if (pt_not (pt_val (pe_call (ok_is_launch T) (hr.mono (by decide)) (by rfl) T.g_is_launch T.F_is_launch.kp T.b_is_launch .nil pass0 (pa_cons (pe_ix ix_tup (pv 0) pe_int (fun _ _ => rfl)) (pa_cons (pv 1) pa_nil))))) (pss_one (ps_raise rfl (takes_of rfl rfl rfl rfl) (pmk_own PySem.F.excBase_ValueError T.x_BadLaunch T.g_BadLaunch T.k_BadLaunch (raises_own T.bx_BadLaunch T.ty_BadLaunch) (by rfl)))) pss_nil)), ?_⟩
    cases hk with
    | @tup a vs ds h r =>
    cases r with
    | @cons vp _ _ _ dp r =>
    refine ⟨_, rfl, a, _, 0, vp, rfl, rfl, h, atI_nat (j := 0) rfl, _, rfl, v, vp, d, ps, rfl, hd, dp, fun H1 s1 => ⟨_, rfl, ?_⟩⟩
    by_cases hl : launchD (ps.map (·.2)) d = true
    · rw [hl]
      exact iteF (q1 hl _ s1)
    · have hf := Bool.eq_false_iff.mpr hl
      rw [hf]
      exact iteT (q2 hf _ s1)

/-! ### the law's own look -/
theorem ok_law_is_number (T : Tx w K mg) : FnOk P w K mg base CX0 1 T.a_law_is_number T.d_law_is_number ["value", "low", "high"] (spD2 K numIn) := by
  refine T.F_law_is_number.ok sc_law_is_number (fun vs H Q E h => ?_) (fun cdv A outer s H vs Q E hr h => ?_)
  · obtain ⟨v, d, lo, hi, rfl, _⟩ := h
    rfl
  · obtain ⟨v, d, lo, hi, rfl, hd, q⟩ := h
    refine ⟨_, (pss_one (ps_ret (pe_and (pe_callB call_isi (by rfl) T.z_isinstance (by decide +kernel) (pa_cons (pv 0) (pa_cons (pe_bltn (v := .ty "int") (u := .type "int") (by rfl) T.z_int (by decide +kernel) rfl) pa_nil))) (pe_and (pe_not (pe_callB call_isi (by rfl) T.z_isinstance (by decide +kernel) (pa_cons (pv 0) (pa_cons (pe_bltn (v := .ty "bool") (u := .type "bool") (by rfl) T.z_bool (by decide +kernel) rfl) pa_nil)))) (pe_one (pe_chain op_le op_le (pv 1) (pv 0) (pv 2))))))), ?_⟩
    refine ⟨_, rfl, _, _, _, _, _, rfl, .ty "int", hd.tyx, kit_int d, _, rfl, ?_⟩
    cases hd with
    | int i =>
      refine iteT ⟨_, rfl, _, _, _, _, _, rfl, .ty "bool", .base (.int i), kit_bool (.int i), _, rfl, _, rfl, iteT ?_⟩
      refine ⟨_, rfl, _, rfl, _, _, rfl, rfl, _, rfl, ?_⟩
      by_cases h1 : lo ≤ i
      · rw [decide_eq_true h1]
        refine iteT ⟨_, rfl, _, _, rfl, rfl, ?_⟩
        have e : numIn lo hi (.int i) = decide (i ≤ hi) := by show (decide (lo ≤ i) && decide (i ≤ hi)) = _; rw [decide_eq_true h1, Bool.true_and]
        rw [e] at q
        exact q
      · rw [decide_eq_false h1]
        have e : numIn lo hi (.int i) = false := by show (decide (lo ≤ i) && decide (i ≤ hi)) = _; rw [decide_eq_false h1, Bool.false_and]
        rw [e] at q
        exact iteF q
    | bl b => exact iteT ⟨_, rfl, _, _, _, _, _, rfl, .ty "bool", .base (.bl b), kit_bool (.bool b), _, rfl, _, rfl, iteF q⟩
    | non => exact q
    | str x => exact q
    | lst h r => exact q
    | tup h r => exact q
theorem ok_law_is_word (T : Tx w K mg) : FnOk P w K mg base CX0 2 T.a_law_is_word T.d_law_is_word ["value"] (spD K wordD) := by
  refine T.F_law_is_word.ok sc_law_is_word (fun vs H Q E h => ?_) (fun cdv A outer s H vs Q E hr h => ?_)
  · obtain ⟨v, d, rfl, _⟩ := h
    rfl
  · obtain ⟨v, d, rfl, hd, q⟩ := h
    refine ⟨_, (pss_one (ps_ret (pe_call (ok_law_is_number T) (hr.mono (by decide)) (by rfl) T.g_law_is_number T.F_law_is_number.kp T.b_law_is_number .nil pass0 (pa_cons (pv 0) (pa_cons (pe_un un_neg (pe_op op_pow pe_int pe_int)) (pa_cons (pe_op op_sub (pe_op op_pow pe_int pe_int) pe_int) pa_nil)))))), ?_⟩
    have c31 : CPow 2 31 := ⟨by decide, by decide, by decide⟩
    exact ⟨_, rfl, _, _, rfl, rfl, c31, _, rfl, _, _, rfl, rfl, c31, _, _, rfl, rfl, v, d, _, _, rfl, hd, q _ (.refl H)⟩
def sp_law_is_good (K : PySem.W.Frag) : Sp := fun vs H Q _ => ∃ (v kv : V) (d : PyData) (ps : List (Str × Bool)) (rest : List PyData), vs = [kv, v] ∧ Dp K H v d ∧ Dp K H kv (.tuple (.tuple (ps.map pairD) :: rest)) ∧ ps.length ≤ 1000 ∧ ∀ H', Same H H' → Q (.bl (launchD (ps.map (·.2)) d)) H'
theorem sort_buf (b : Bool) : decide (V.str (sortS b) = V.str "buffer") = !b := by
  cases b <;> decide +kernel
theorem ok_law_is_good (T : Tx w K mg) : FnOk P w K mg base CX0 3 T.a_law_is_good T.d_law_is_good ["kernel", "value"] (sp_law_is_good K) := by
  refine T.F_law_is_good.ok sc_law_is_good (fun vs H Q E h => ?_) (fun cdv A outer s H vs Q E hr h => ?_)
  · obtain ⟨v, kv, d, ps, rest, rfl, _⟩ := h
    rfl
  · obtain ⟨v, kv, d, ps, rest, rfl, hd, hk, hpl, q⟩ := h
    refine ⟨_, (pss_cons (ps_if (PW.pt (pw_or (pt_not (pt_val (pe_callB call_isi (by rfl) T.z_isinstance (by decide +kernel) (pa_cons (pv 1) (pa_cons (pe_bltn (v := .ty "tuple") (u := .type "tuple") (by rfl) T.z_tuple (by decide +kernel) rfl) pa_nil))))) (pw_or (pt_cmpR op_ne (pe_callB call_len_seq (by rfl) T.z_len (by decide +kernel) (pa_cons (pv 1) pa_nil)) pe_int (nomark _)) (pw_or (pt_not (pt_val (pe_callB call_isi (by rfl) T.z_isinstance (by decide +kernel) (pa_cons (pe_ix ix_tup (pv 1) pe_int (fun _ _ => rfl)) (pa_cons (pe_bltn (v := .ty "tuple") (u := .type "tuple") (by rfl) T.z_tuple (by decide +kernel) rfl) pa_nil))))) (pw_or1 (pt_not (pt_val (pe_callB call_isi (by rfl) T.z_isinstance (by decide +kernel) (pa_cons (pe_ix ix_tup (pv 1) pe_int (fun _ _ => rfl)) (pa_cons (pe_bltn (v := .ty "tuple") (u := .type "tuple") (by rfl) T.z_tuple (by decide +kernel) rfl) pa_nil)))))))))) (pss_one (ps_ret pe_bl)) pss_nil)
      (pss_cons (ps_if (PW.pt (pw_or (pt_not (pt_val (pe_call (ok_law_is_number T) (hr.mono (by decide)) (by rfl) T.g_law_is_number T.F_law_is_number.kp T.b_law_is_number .nil pass0 (pa_cons (pe_ix ix_tup (pv 1) pe_int (fun _ _ => rfl)) (pa_cons pe_int (pa_cons pe_int pa_nil)))))) (pw_or (pt_not (pt_val (pe_call (ok_law_is_number T) (hr.mono (by decide)) (by rfl) T.g_law_is_number T.F_law_is_number.kp T.b_law_is_number .nil pass0 (pa_cons (pe_ix ix_tup (pv 1) pe_int (fun _ _ => rfl)) (pa_cons pe_int (pa_cons pe_int pa_nil)))))) (pw_or1 (pt_cmpR op_gt (pe_callB call_len_seq (by rfl) T.z_len (by decide +kernel) (pa_cons (pe_ix ix_tup (pv 1) pe_int (fun _ _ => rfl)) pa_nil)) pe_int (nomark _)))))) (pss_one (ps_ret pe_bl)) pss_nil)
      (pss_cons (ps_for PassesOwn.never rfl (pi_tup (pe_ix ix_tup (pv 1) pe_int (fun _ _ => rfl))) (pg_name (i := 2) sc_law_is_good.nd rfl (.inl rfl)) (pss_one (ps_if (PW.pt (pw_or (pt_not (pt_val (pe_callB call_isi (by rfl) T.z_isinstance (by decide +kernel) (pa_cons (pv 2) (pa_cons (pe_bltn (v := .ty "tuple") (u := .type "tuple") (by rfl) T.z_tuple (by decide +kernel) rfl) pa_nil))))) (pw_or (pt_cmpR op_gt (pe_callB call_len_seq (by rfl) T.z_len (by decide +kernel) (pa_cons (pv 2) pa_nil)) pe_int (nomark _)) (pw_or1 (pt_not (pt_val (pe_callB (cr_all rfl) (by rfl) T.z_all (by decide +kernel) (pa_cons (pe_lc (own := [("cell", 4)]) (g := gName 4) (tt := tYes) rfl sc_law_is_good.nd (pi_tup (pv 2)) (blkOk_by (N := ["kernel", "value", "row", "at", "cell"]) (sc := defScope s_law_is_good) (by decide +kernel)) (fun _ _ _ _ _ => (pg_name (i := 4) sc_law_is_good.nd rfl (.inl rfl))) (fun _ _ _ _ _ => pts_nil) (fun _ _ _ _ _ => (pe_call (ok_law_is_word T) (hr.mono (by decide)) (by rfl) T.g_law_is_word T.F_law_is_word.kp T.b_law_is_word .nil pass0 (pa_cons (pv 4) pa_nil)))) pa_nil)))))))) (pss_one (ps_ret pe_bl)) pss_nil)))
      (pss_cons (ps_if (pt_cmpR op_ne (pe_callB call_len_seq (by rfl) T.z_len (by decide +kernel) (pa_cons (pe_ix ix_tup (pv 1) pe_int (fun _ _ => rfl)) pa_nil)) (pe_callB call_len_seq (by rfl) T.z_len (by decide +kernel) (pa_cons (pe_ix ix_tup (pv 0) pe_int (fun _ _ => rfl)) pa_nil)) (nomark _)) (pss_one (ps_ret pe_bl)) pss_nil)
      (pss_cons (ps_for PassesOwn.never rfl (pi_range1 (by rfl) T.z_range (pa_cons (pe_callB call_len_seq (by rfl) T.z_len (by decide +kernel) (pa_cons (pe_ix ix_tup (pv 1) pe_int (fun _ _ => rfl)) pa_nil)) pa_nil)) (pg_name (i := 3) sc_law_is_good.nd rfl (.inl rfl)) (pss_cons (ps_if (PW.pt (pw_and (pt_cmpR op_eq (pe_ix ix_tup (pe_ix ix_tup (pe_ix ix_tup (pv 0) pe_int (fun _ _ => rfl)) (pv 3) (fun _ _ => rfl)) pe_int (fun _ _ => rfl)) pe_str (nomark _)) (pw_and1 (pt_not (pt_val (pe_call (ok_law_is_word T) (hr.mono (by decide)) (by rfl) T.g_law_is_word T.F_law_is_word.kp T.b_law_is_word .nil pass0 (pa_cons (pe_ix ix_tup (pe_ix ix_tup (pv 1) pe_int (fun _ _ => rfl)) (pv 3) (fun _ _ => rfl)) pa_nil))))))) (pss_one (ps_ret pe_bl)) pss_nil)
      (pss_one (ps_if (PW.pt (pw_and (pt_cmpR op_eq (pe_ix ix_tup (pe_ix ix_tup (pe_ix ix_tup (pv 0) pe_int (fun _ _ => rfl)) (pv 3) (fun _ _ => rfl)) pe_int (fun _ _ => rfl)) pe_str (nomark _)) (pw_and1 (pt_not (pt_val (pe_call (ok_law_is_number T) (hr.mono (by decide)) (by rfl) T.g_law_is_number T.F_law_is_number.kp T.b_law_is_number .nil pass0 (pa_cons (pe_ix ix_tup (pe_ix ix_tup (pv 1) pe_int (fun _ _ => rfl)) (pv 3) (fun _ _ => rfl)) (pa_cons pe_int (pa_cons (pe_op op_sub (pe_callB call_len_seq (by rfl) T.z_len (by decide +kernel) (pa_cons (pe_ix ix_tup (pv 1) pe_int (fun _ _ => rfl)) pa_nil)) pe_int) pa_nil))))))))) (pss_one (ps_ret pe_bl)) pss_nil))))
      (pss_one (ps_ret pe_bl))))))), ?_⟩
    refine ⟨_, rfl, _, _, _, _, _, rfl, .ty "tuple", hd.tyx, kit_tup d, _, rfl, ?_⟩
    cases hd with
    | @tup a vs ds h r =>
    refine iteF ⟨_, rfl, a, _, rfl, .inr h, rfl, _, rfl, ?_⟩
    have evl : vs.length = ds.length := r.len
    by_cases h4 : ds.length = 4
    · rw [evl, h4]
      refine iteF ?_
      obtain ⟨g, b, as, us, rfl⟩ : ∃ g b as us, ds = [g, b, as, us] := by
        match ds, h4 with
        | [g, b, as, us], _ => exact ⟨g, b, as, us, rfl⟩
      cases r with
      | @cons vg _ _ _ dg r =>
      cases r with
      | @cons vb _ _ _ db r =>
      cases r with
      | @cons va _ _ _ da r =>
      cases r with
      | @cons vu _ _ _ du r =>
      cases r with
      | nil =>
      have i0 : atI [vg, vb, va, vu] (0 : Int) = some vg := rfl
      have i1 : atI [vg, vb, va, vu] (1 : Int) = some vb := rfl
      have i2 : atI [vg, vb, va, vu] (2 : Int) = some va := rfl
      have i3 : atI [vg, vb, va, vu] (3 : Int) = some vu := rfl
      refine ⟨_, rfl, a, _, _, _, rfl, rfl, h, i2, _, _, _, _, _, rfl, .ty "tuple", da.tyx, kit_tup as, _, rfl, ?_⟩
      by_cases ta : isTup as = true
      · rw [ta]
        refine iteF ⟨_, rfl, a, _, _, _, rfl, rfl, h, i3, _, _, _, _, _, rfl, .ty "tuple", du.tyx, kit_tup us, _, rfl, ?_⟩
        by_cases tu : isTup us = true
        · rw [tu]
          obtain ⟨xs, rfl⟩ : ∃ xs, as = .tuple xs := by cases as <;> first | exact ⟨_, rfl⟩ | cases ta
          obtain ⟨bufs, rfl⟩ : ∃ bufs, us = .tuple bufs := by cases us <;> first | exact ⟨_, rfl⟩ | cases tu
          have e0 : launchD (ps.map (·.2)) (.tuple [g, b, .tuple xs, .tuple bufs]) = (numIn 1 4 g && numIn 1 8 b && decide (bufs.length ≤ 4) && bufs.all bufD && argsAll (bufs.length : Int) (ps.map (·.2)) xs) := rfl
          cases du with
          | @tup au uvs uds hau rau =>
          cases da with
          | @tup aa avs ads haa raa =>
          have eul : uvs.length = bufs.length := rau.len
          have eal : avs.length = xs.length := raa.len
          refine iteF ⟨_, rfl, a, _, _, _, rfl, rfl, h, i0, vg, g, 1, 4, rfl, dg, _, rfl, ?_⟩
          by_cases hg : numIn 1 4 g = true
          · rw [hg]
            refine iteF ⟨_, rfl, a, _, _, _, rfl, rfl, h, i1, vb, b, 1, 8, rfl, db, _, rfl, ?_⟩
            by_cases hb : numIn 1 8 b = true
            · rw [hb]
              refine iteF ⟨_, rfl, a, _, _, _, rfl, rfl, h, i3, au, _, rfl, .inr hau, _, _, rfl, rfl, _, rfl, ?_⟩
              rw [eul]
              by_cases h4b : bufs.length ≤ 4
              · rw [decide_eq_false (by omega : ¬ (4 : Int) < (bufs.length : Int))]
                rw [hg, hb, decide_eq_true h4b, Bool.true_and, Bool.true_and, Bool.true_and] at e0
                refine iteF ⟨_, rfl, a, _, _, _, rfl, rfl, h, i3, au, rfl, ⟨_, hau⟩, for_tup (K := K) (a := au) (xs := uvs) (fun i σ H' => ∃ y2 y3 y4 : Option V, σ = [some kv, some (.ref a), y2, y3, y4] ∧ bufs.all bufD = (bufs.drop i).all bufD ∧ Same H H') ⟨none, none, none, rfl, rfl, .refl H⟩ (fun i σ H' _ ⟨_, _, _, _, _, e⟩ => Same.sqt e hau) ?_ ?_⟩
                · rintro i x σ H1 hx ⟨y2, y3, y4, rfl, ea, sm⟩
                  obtain ⟨d, ed, pd⟩ := rau.get hx
                  have pd1 := pd.same sm
                  have eb : bufs.all bufD = (bufD d && (bufs.drop (i + 1)).all bufD) := by
                    rw [ea]
                    obtain ⟨hi, rfl⟩ := List.getElem?_eq_some_iff.mp ed
                    rw [List.drop_eq_getElem_cons hi, List.all_cons]
                  have bad : ∀ H', Same H H' → bufD d = false → Q (.bl false) H' := fun H' s e => by
                    rw [e, Bool.false_and] at eb
                    rw [e0, eb, Bool.false_and] at q
                    exact q H' s
                  refine ⟨_, rfl, _, _, _, _, _, rfl, .ty "tuple", pd1.tyx, kit_tup d, _, rfl, ?_⟩
                  cases d with
                  | tuple cells =>
                    cases pd1 with
                    | @tup ac cvs cds hac rac =>
                    have ecl : cvs.length = cells.length := rac.len
                    refine iteF ⟨_, rfl, ac, _, rfl, .inr hac, _, _, rfl, rfl, _, rfl, ?_⟩
                    rw [ecl]
                    by_cases h24 : cells.length ≤ 24
                    · rw [decide_eq_false (by omega : ¬ (24 : Int) < (cells.length : Int))]
                      refine iteF ⟨_, rfl, ac, rfl, ⟨_, hac⟩, fun D nD => lc_tup (K := K) (a := ac) (xs := cvs) (fun i H' => H' D = some (.lst ((cells.take i).map fun d => V.bl (wordD d))) ∧ i ≤ 24 ∧ Same H1 H') ⟨upd_same, by decide, fun c o e => by rw [upd_ne (ne_of_none e nD)]; exact e⟩ (fun i H' _ ⟨_, _, e⟩ => Same.sqt e hac) ?_ ?_⟩
                      · rintro j x H2 hx ⟨eD, hj, sm2⟩
                        obtain ⟨dc, edc, pdc⟩ := rac.get hx
                        have hj2 : j < cells.length := (List.getElem?_eq_some_iff.mp edc).1
                        refine ⟨rfl, _, rfl, x, dc, rfl, pdc.same sm2, fun H3 s3 => ?_⟩
                        refine ⟨_, s3 _ _ eD, ?_, ?_, by omega, fun c o e => ?_⟩
                        · rw [List.length_map]; exact small1000 (by rw [List.length_take]; omega)
                        · rw [upd_same, bools_snoc edc]
                        · rw [upd_ne (ne_of_none e nD)]; exact s3 _ _ (sm2 _ _ e)
                      · rintro H2 ⟨eD, hj, sm2⟩
                        rw [ecl, List.take_length] at eD
                        refine ⟨D, cells.map wordD, rfl, SqL.of (by rw [List.map_map]; exact eD), _, rfl, ?_⟩
                        rw [all_bools]
                        have e1 : bufD (.tuple cells) = cells.all wordD := by show (decide (cells.length ≤ 24) && cells.all wordD) = _; rw [decide_eq_true h24, Bool.true_and]
                        by_cases hc : cells.all wordD = true
                        · rw [hc]
                          refine iteF ⟨_, _, _, rfl, ?_, sm.trans sm2⟩
                          rw [eb, e1, hc, Bool.true_and]
                        · rw [Bool.eq_false_iff.mpr hc]
                          exact iteT (bad _ (sm.trans sm2) (by rw [e1]; exact Bool.eq_false_iff.mpr hc))
                    · rw [decide_eq_true (by omega : (24 : Int) < (cells.length : Int))]
                      exact iteT (bad _ sm (by show (decide (cells.length ≤ 24) && cells.all wordD) = _; rw [decide_eq_false h24, Bool.false_and]))
                  | _ => exact bad _ sm rfl
                · rintro σ H1 ⟨y2, y3, y4, rfl, ea, sm⟩
                  have ha : bufs.all bufD = true := by rw [ea, List.drop_of_length_le (by omega)]; rfl
                  rw [ha, Bool.true_and] at e0
                  cases hk with
                  | @tup ak kvs kds hak rak =>
                  cases rak with
                  | @cons vp krest _ _ dp rak =>
                  cases dp with
                  | @tup ap pvs pds hap rap =>
                  have epl : pvs.length = ps.length := by rw [rap.len, List.length_map]
                  have h1 := Same.sqt sm h
                  have hak1 := Same.sqt sm hak
                  have hap1 := Same.sqt sm hap
                  have haa1 := Same.sqt sm haa
                  have k0 : atI (V.ref ap :: krest) (0 : Int) = some (.ref ap) := atI_nat (j := 0) rfl
                  refine ⟨_, rfl, a, _, _, _, rfl, rfl, h1, i2, aa, _, rfl, .inr haa1, _, rfl, ak, _, _, _, rfl, rfl, hak1, k0, ap, _, rfl, .inr hap1, rfl, _, rfl, ?_⟩
                  rw [eal, epl]
                  by_cases hl : xs.length = ps.length
                  · rw [hl]
                    refine iteNS rfl ⟨_, rfl, a, _, _, _, rfl, rfl, h1, i2, aa, _, rfl, .inr haa1, _, rfl, by omega, by omega, for_range (fun i σ H' => ∃ y3 y4 y2 : Option V, σ = [some (.ref ak), some (.ref a), y2, y3, y4] ∧ argsAll (bufs.length : Int) (ps.map (·.2)) xs = argsAll (bufs.length : Int) ((ps.map (·.2)).drop i) (xs.drop i) ∧ Same H H') ⟨_, _, _, rfl, rfl, sm⟩ ?_ ?_⟩
                    · rintro i σ H2 hi ⟨y3, y4, y2, rfl, ea, s2⟩
                      have hi2 : i < ps.length := by omega
                      have hix : i < xs.length := by omega
                      obtain ⟨x, ex, px⟩ := rap.at (i := i) (d := pairD ps[i]) (by rw [List.getElem?_map, List.getElem?_eq_getElem hi2]; rfl)
                      obtain ⟨vy, ey, py⟩ := raa.at (i := i) (d := xs[i]) (List.getElem?_eq_getElem hix)
                      have ai : ∀ {l : List V} {v : V}, l[i]? = some v → atI l (0 + (i : Int)) = some v := fun h => by rw [Int.zero_add]; exact atI_nat h
                      have edrop := argsAll_drop (bufs.length : Int) (ps.map (·.2)) xs i ps[i].2 xs[i] (by rw [List.getElem?_map, List.getElem?_eq_getElem hi2]; rfl) (List.getElem?_eq_getElem hix)
                      have bad : ∀ H', Same H H' → argD ps[i].2 (bufs.length : Int) xs[i] = false → Q (.bl false) H' := fun H' s e => by
                        rw [e0, ea, edrop, e, Bool.false_and] at q
                        exact q H' s
                      have good : argD ps[i].2 (bufs.length : Int) xs[i] = true → argsAll (bufs.length : Int) (ps.map (·.2)) xs = argsAll (bufs.length : Int) ((ps.map (·.2)).drop (i + 1)) (xs.drop (i + 1)) := fun e => by
                        rw [ea, edrop, e, Bool.true_and]
                      have py2 := py.same s2
                      have h2 := Same.sqt s2 h
                      have hak2 := Same.sqt s2 hak
                      have hap2 := Same.sqt s2 hap
                      have haa2 := Same.sqt s2 haa
                      cases px with
                      | @tup ax axs axd hax hr2 =>
                      have hax2 := Same.sqt s2 hax
                      cases hr2 with
                      | cons c1 c2 =>
                      cases c1 with
                      | str n =>
                      cases c2 with
                      | cons c3 c4 =>
                      cases c3 with
                      | str n2 =>
                      cases c4 with
                      | nil =>
                      have j1 : atI [V.str ps[i].1, V.str (sortS ps[i].2)] (1 : Int) = some (.str (sortS ps[i].2)) := rfl
                      refine ⟨_, rfl, ak, _, _, _, rfl, rfl, hak2, k0, _, rfl, ap, _, _, _, rfl, rfl, hap2, ai ex, ax, _, _, _, rfl, rfl, hax2, j1, rfl, _, rfl, ?_⟩
                      rw [sort_int]
                      cases hb2 : ps[i].2 with
                      | true =>
                        rw [hb2] at bad good hax2 j1
                        have ew : argD true (bufs.length : Int) xs[i] = wordD xs[i] := rfl
                        refine iteT ⟨_, rfl, a, _, _, _, rfl, rfl, h2, i2, _, rfl, aa, _, _, _, rfl, rfl, haa2, ai ey, vy, _, rfl, py2, fun H3 s3 => ⟨_, rfl, ?_⟩⟩
                        by_cases hw : wordD xs[i] = true
                        · rw [hw]
                          refine iteF ⟨_, rfl, ak, _, _, _, rfl, rfl, Same.sqt s3 hak2, k0, _, rfl, ap, _, _, _, rfl, rfl, Same.sqt s3 hap2, ai ex, ax, _, _, _, rfl, rfl, Same.sqt s3 hax2, j1, rfl, _, rfl, ?_⟩
                          rw [sort_buf]
                          exact iteF ⟨_, _, _, rfl, good (by rw [ew]; exact hw), s2.trans s3⟩
                        · rw [Bool.eq_false_iff.mpr hw]
                          exact iteT (bad _ (s2.trans s3) (by rw [ew]; exact Bool.eq_false_iff.mpr hw))
                      | false =>
                        rw [hb2] at bad good hax2 j1
                        have ew : argD false (bufs.length : Int) xs[i] = numIn 0 ((bufs.length : Int) - 1) xs[i] := rfl
                        refine iteF ⟨_, rfl, ak, _, _, _, rfl, rfl, hak2, k0, _, rfl, ap, _, _, _, rfl, rfl, hap2, ai ex, ax, _, _, _, rfl, rfl, hax2, j1, rfl, _, rfl, ?_⟩
                        rw [sort_buf]
                        refine iteT ⟨_, rfl, a, _, _, _, rfl, rfl, h2, i2, _, rfl, aa, _, _, _, rfl, rfl, haa2, ai ey, _, rfl, a, _, _, _, rfl, rfl, h2, i3, au, _, rfl, .inr (Same.sqt s2 hau), _, _, rfl, rfl, ?_⟩
                        rw [eul]
                        refine ⟨vy, xs[i], 0, _, rfl, py2, _, rfl, ?_⟩
                        by_cases hw : numIn 0 ((bufs.length : Int) - 1) xs[i] = true
                        · rw [hw]
                          exact iteF ⟨_, _, _, rfl, good (by rw [ew]; exact hw), s2⟩
                        · rw [Bool.eq_false_iff.mpr hw]
                          exact iteT (bad _ s2 (by rw [ew]; exact Bool.eq_false_iff.mpr hw))
                    · rintro σ H2 ⟨y3, y4, y2, rfl, ea, s2⟩
                      have ha2 : argsAll (bufs.length : Int) (ps.map (·.2)) xs = true := by
                        rw [ea, List.drop_of_length_le (by rw [List.length_map]; omega), List.drop_of_length_le (by omega)]
                        rfl
                      rw [e0, ha2] at q
                      exact q _ s2
                  · have e : argsAll (bufs.length : Int) (ps.map (·.2)) xs = false := by
                      cases e : argsAll (bufs.length : Int) (ps.map (·.2)) xs with
                      | false => rfl
                      | true =>
                        have := argsAll_len e
                        rw [List.length_map] at this
                        exact absurd this hl
                    rw [e0, e] at q
                    rw [decide_eq_false (fun z => hl (by have := V.int.inj z; omega))]
                    exact q _ sm
              · rw [decide_eq_true (by omega : (4 : Int) < (bufs.length : Int))]
                rw [e0, decide_eq_false h4b] at q
                rw [Bool.and_false, Bool.false_and, Bool.false_and] at q
                exact iteT (q _ (.refl H))
            · rw [Bool.eq_false_iff.mpr hb]
              rw [e0, Bool.eq_false_iff.mpr hb, Bool.and_false, Bool.false_and, Bool.false_and, Bool.false_and] at q
              exact iteT (q _ (.refl H))
          · rw [Bool.eq_false_iff.mpr hg]
            rw [e0, Bool.eq_false_iff.mpr hg, Bool.false_and, Bool.false_and, Bool.false_and, Bool.false_and] at q
            exact iteT (q _ (.refl H))
        · have e : launchD (ps.map (·.2)) (.tuple [g, b, as, us]) = false := by
            cases us with
            | tuple x => exact absurd rfl tu
            | _ => rfl
          rw [Bool.eq_false_iff.mpr tu]
          rw [e] at q
          exact iteT (q _ (.refl H))
      · have e : launchD (ps.map (·.2)) (.tuple [g, b, as, us]) = false := by
          cases us with
          | tuple bufs =>
            show (numIn 1 4 g && numIn 1 8 b && decide (bufs.length ≤ 4) && bufs.all bufD && argsD (ps.map (·.2)) (bufs.length : Int) as) = false
            have e1 : argsD (ps.map (·.2)) (bufs.length : Int) as = false := by
              cases as with
              | tuple x => exact absurd rfl ta
              | _ => rfl
            rw [e1, Bool.and_false]
          | _ => rfl
        rw [Bool.eq_false_iff.mpr ta]
        rw [e] at q
        exact iteT (q _ (.refl H))
    · rw [evl, decide_eq_false (fun z => h4 (by have := V.int.inj z; omega))]
      have e : launchD (ps.map (·.2)) (.tuple ds) = false := by
        unfold launchD
        split
        · rename_i heq
          cases heq
          exact absurd rfl h4
        · rfl
      rw [e] at q
      exact iteT (q _ (.refl H))
    | int i => exact q _ (.refl H)
    | bl b => exact q _ (.refl H)
    | non => exact q _ (.refl H)
    | str x => exact q _ (.refl H)
    | lst h r => exact q _ (.refl H)

/-! ### what the law is told -/
theorem call_isE2 {X : Cx} {a : Addr} {cls : Value} {d : Option Addr} {oe : Obj} {pn : List (Addr × Obj)} (hz : Zc cls d oe) (hf : ∃ vs, oe.data = .fields vs) :
    CallR (X.suite a ((a, oe) :: pn)) (.builtin "isinstance") (fun xs H Q => ∃ D, cls = .ref D ∧ d = none ∧ ExcC X.K D ∧ rIsE X.K D a xs H Q) := by
  intro pins s σ H xs us Q I r h
  obtain ⟨D, rfl, rfl, C, h⟩ := h
  exact call_isE C hz hf pins s σ H xs us Q I r h
def sp_law_given : Sp := fun vs H Q _ => vs = [.non] ∧ Q .non H
theorem ok_law_given (T : Tx w K mg) : FnOk P w K mg base CX0 1 T.a_law_given T.d_law_given ["told"] sp_law_given := by
  refine T.F_law_given.ok sc_law_given (fun vs H Q E h => ?_) (fun cdv A outer s H vs Q E hr h => ?_)
  · obtain ⟨rfl, _⟩ := h
    rfl
  · obtain ⟨rfl, q⟩ := h
    refine ⟨_, (pss_cons (ps_if (PW.pt (pw_and (pt_val (pe_callB call_isi (by rfl) T.z_isinstance (by decide +kernel) (pa_cons (pv 0) (pa_cons (pe_bltn (v := .ty "tuple") (u := .type "tuple") (by rfl) T.z_tuple (by decide +kernel) rfl) pa_nil)))) (pw_and1 (pt_cmpR (op_eqD hr.units) (pe_slice sl_tup (pv 0) po_none (po_some pe_int)) (pe_tup (pa_cons pe_str pa_nil)) (nomark _))))) (pss_one (ps_ret (pe_lst (pa_cons pe_str pa_nil)))) pss_nil)
      (pss_one (ps_ret (pv 0)))), ?_⟩
    exact ⟨_, rfl, _, _, _, _, _, rfl, .ty "tuple", .base .non, kit_tup .none, _, rfl, iteF ⟨_, rfl, q⟩⟩
def refused (x : Str) : PyData := .tuple [.str "refused", .str x]
def sp_law_told (K : PySem.W.Frag) : Sp := fun vs H Q _ => ∃ (v kv : V) (d : PyData) (ps : List (Str × Bool)) (rest : List PyData), vs = [kv, v] ∧ Dp K H v d ∧ Dp K H kv (.tuple (.tuple (ps.map pairD) :: rest)) ∧
  (launchD (ps.map (·.2)) d = true → ∀ H', Same H H' → Q .non H') ∧ (launchD (ps.map (·.2)) d = false → ∀ H' r, Same H H' → Dp K H' r (refused "launch") → Q r H')
theorem ok_law_told (T : Tx w K mg) : FnOk P w K mg base CX0 7 T.a_law_told T.d_law_told ["kernel", "value"] (sp_law_told K) := by
  refine T.F_law_told.ok sc_law_told (fun vs H Q E h => ?_) (fun cdv A outer s H vs Q E hr h => ?_)
  · obtain ⟨v, kv, d, ps, rest, rfl, _⟩ := h
    rfl
  · obtain ⟨v, kv, d, ps, rest, rfl, hd, hk, q1, q2⟩ := h
    refine ⟨_, (pss_cons (ps_try_as (i := 2) rfl rfl sc_law_told.nd rfl rfl ⟨rfl, by decide, .inl T.g_BadLaunch⟩ takes0 (fun W pn xe tk _ => (pss_one (ps_ret (pe_call (ok_law_given T) (hr.mono (by decide)) (by rfl) T.g_law_given T.F_law_given.kp T.b_law_given .nil pass0 (pa_cons (pe_callS (ok_check_launch T) (hr.mono (by decide)) (by rfl) T.g_check_launch T.F_check_launch.kp T.b_check_launch (fun σ => passAt tk σ) (pa_cons (pv 0) (pa_cons (pv 1) pa_nil))) pa_nil))))) (fun a oe cls d pn hz hf => (pss_one (ps_if (PW.pt (pw_and (pt_val (pe_callB (call_isE2 hz hf) (by rfl) T.z_isinstance (by decide +kernel) (pa_cons (pv 2) (pa_cons (pe_glob (v := .ref T.c_DrawloomError) (by rfl) T.g_DrawloomError rfl) pa_nil)))) (pw_and1 (pt_val (pe_callB (call_isE2 hz hf) (by rfl) T.z_isinstance (by decide +kernel) (pa_cons (pv 2) (pa_cons (pe_bltn (v := .ty "ValueError") (u := .type "ValueError") (by rfl) T.z_ValueError (by decide +kernel) rfl) pa_nil))))))) (pss_one (ps_ret (pe_tup (pa_cons pe_str (pa_cons pe_str pa_nil))))) pss_nil))))
      (pss_one (ps_ret (pe_tup (pa_cons pe_str (pa_cons pe_str pa_nil)))))), ?_⟩
    have eP : PySem.W.exmOne K (.ref T.c_BadLaunch) (.ref T.c_BadLaunch) = some true := PySem.W.exm_ref T.bx_BadLaunch T.hd_BadLaunch T.ty_BadLaunch T.me_BadLaunch
    refine ⟨_, rfl, _, rfl, v, kv, d, ps, rest, rfl, hd, hk, fun hl H1 s1 => ?_, fun hl H1 s1 => ?_⟩
    · exact ⟨rfl, q1 hl _ s1⟩
    · refine ⟨true, eP, fun _ a na => ?_, fun z => nomatch z⟩
      refine ⟨_, rfl, T.c_BadLaunch, rfl, rfl, T.ec_BadLaunch, _, _, _, rfl, fun u h => h, T.kk_BadLaunch_DrawloomError, _, rfl, iteT ?_⟩
      refine ⟨_, rfl, T.c_BadLaunch, rfl, rfl, T.ec_BadLaunch, _, _, _, rfl, fun u h => h, T.kv_BadLaunch, _, rfl, iteT ?_⟩
      refine ⟨(by show 2 ≤ sizeLine; decide), fun p np => q2 hl _ _ (s1.trans (same_new5 np)) ?_⟩
      exact .tup (SqT.of upd_same) (.cons (.str _) (.cons (.str _) .nil))

/-! ### the law's stream of draws -/
/-- at p: a stream; which numbers it gives is left open -/
def Strm (q : Addr) (H : Hp) (p : Addr) : Prop := ∃ (cur pos mixed : Int) (ns : List Int), H p = some (.lst [.ref q, .int cur, .int pos, .int mixed]) ∧ H q = some (.lst (ns.map V.int)) ∧
  0 ≤ cur ∧ 0 ≤ pos ∧ pos ≤ ns.length ∧ ns.length ≤ 63 ∧ 0 ≤ mixed ∧ mixed < 2147483647
def But (p : Addr) (H H' : Hp) : Prop := ∀ b o, b ≠ p → H b = some o → H' b = some o
theorem But.refl {p : Addr} {H : Hp} : But p H H := fun _ _ _ h => h
theorem But.trans {p : Addr} {H H1 H2 : Hp} (a : But p H H1) (b : But p H1 H2) : But p H H2 := fun c o n h => b c o n (a c o n h)
theorem But.same {p : Addr} {H H1 H2 : Hp} (a : But p H H1) (b : Same H1 H2) : But p H H2 := fun c o n h => b c o (a c o n h)
theorem But.upd {p : Addr} {H H1 : Hp} {o : HO} (a : But p H H1) : But p H (L2.upd H1 p o) := fun c u n h => by rw [upd_ne n]; exact a c u n h
theorem same_new {H : Hp} {p : Addr} {o : HO} (h : H p = none) : Same H (upd H p o) := fun b x e => by
  rw [upd_ne (ne_of_none e h)]
  exact e
theorem Strm.same {q : Addr} {H H' : Hp} {p : Addr} (s : Strm q H p) (h : Same H H') : Strm q H' p := by
  obtain ⟨cur, pos, mixed, ns, e1, e2, r⟩ := s
  exact ⟨cur, pos, mixed, ns, h _ _ e1, h _ _ e2, r⟩
theorem Strm.upd {q : Addr} {H : Hp} {p D : Addr} {o : HO} (s : Strm q H p) (np : D ≠ p) (nq : D ≠ q) : Strm q (upd H D o) p := by
  obtain ⟨cur, pos, mixed, ns, e1, e2, r⟩ := s
  exact ⟨cur, pos, mixed, ns, by rw [upd_ne np.symm]; exact e1, by rw [upd_ne nq.symm]; exact e2, r⟩
theorem Strm.nep {q : Addr} {H : Hp} {p D : Addr} (s : Strm q H p) (h : H D = none) : D ≠ p := fun e => by
  obtain ⟨cur, pos, mixed, ns, e1, _⟩ := s
  rw [e, e1] at h
  cases h
theorem Strm.neq {q : Addr} {H : Hp} {p D : Addr} (s : Strm q H p) (h : H D = none) : D ≠ q := fun e => by
  obtain ⟨cur, pos, mixed, ns, _, e2, _⟩ := s
  rw [e, e2] at h
  cases h
theorem Strm.pq {q : Addr} {H : Hp} {p : Addr} (s : Strm q H p) : q ≠ p := fun z => by
  obtain ⟨cur, pos, mixed, ns, e1, e2, _⟩ := s
  rw [z, e1] at e2
  cases ns with
  | nil => cases e2
  | cons x r => cases e2
def sp_law_stream (K : PySem.W.Frag) : Sp := fun vs H Q _ => ∃ (a : Addr) (ns : List Int), vs = [.ref a] ∧ SqL K H a (ns.map V.int) ∧ ns.length ≤ 63 ∧ ∀ H' p q, Same H H' → H p = none → H q = none → Strm q H' p → Q (.ref p) H'
def sp_law_draw : Sp := fun vs H Q _ => ∃ (p q : Addr) (many : Int), vs = [.ref p, .int many] ∧ Strm q H p ∧ 0 < many ∧ many < 2 ^ 100 ∧ ∀ (v : Int) H', 0 ≤ v → v < many → But p H H' → Strm q H' p → Q (.int v) H'
theorem ok_law_stream (T : Tx w K mg) : FnOk P w K mg base CX0 1 T.a_law_stream T.d_law_stream ["script"] (sp_law_stream K) := by
  refine T.F_law_stream.ok sc_law_stream (fun vs H Q E h => ?_) (fun cdv A outer s H vs Q E hr h => ?_)
  · obtain ⟨a, ns, rfl, _⟩ := h
    rfl
  · obtain ⟨a, ns, rfl, hS, hlen, q⟩ := h
    refine ⟨_, (pss_cons (ps_set (i := 1) sc_law_stream.nd rfl (.inl rfl) pe_int)
      (pss_cons (ps_for PassesOwn.never rfl (pi_list (pv 0)) (pg_name (i := 2) sc_law_stream.nd rfl (.inl rfl)) (pss_one (ps_set (i := 1) sc_law_stream.nd rfl (.inl rfl) (pe_op op_mod (pe_callTy call_int1 (by rfl) T.z_int (by decide +kernel) (pa_cons (pe_op op_add (pe_op op_add (pe_op op_mul (pv 1) pe_int) (pe_op op_mod (pe_callTy call_int1 (by rfl) T.z_int (by decide +kernel) (pa_cons (pv 2) pa_nil)) pe_int)) pe_int) pa_nil)) pe_int))))
      (pss_one (ps_ret (pe_lst (pa_cons (pe_callTy call_list_of (by rfl) T.z_list (by decide +kernel) (pa_cons (pv 0) pa_nil)) (pa_cons pe_int (pa_cons pe_int (pa_cons (pv 1) pa_nil))))))))), ?_⟩
    refine ⟨_, rfl, a, rfl, ⟨_, hS⟩, for_list (K := K) (a := a) (xs := ns.map V.int) (fun i σ H' => ∃ (m : Int) (c : Option V), σ = [some (.ref a), some (.int m), c] ∧ 0 ≤ m ∧ m < 2147483647 ∧ H' = H) ⟨17, none, rfl, by decide, by decide, rfl⟩ (fun i σ H' _ ⟨_, _, _, _, _, e⟩ => by rw [e]; exact hS) ?_ ?_⟩
    · rintro i x σ H' hx ⟨m, c, rfl, h0, h1, rfl⟩
      obtain ⟨n, rfl⟩ : ∃ n, x = V.int n := by
        rw [List.getElem?_map] at hx
        cases e : ns[i]? with
        | none => rw [e] at hx; cases hx
        | some u => rw [e] at hx; exact ⟨u, (Option.some.inj hx).symm⟩
      refine ⟨_, rfl, _, _, rfl, rfl, .inl ⟨by omega, by omega⟩, _, rfl, .inl ⟨_, rfl, _, _, rfl, rfl, (by show (0 : Int) < 65521; decide), _, _, rfl, rfl, _, _, rfl, rfl, .inl ⟨_, rfl, _, _, rfl, rfl, (by show (0 : Int) < 2147483647; decide), ?_⟩⟩⟩
      exact ⟨_, _, rfl, Int.emod_nonneg _ (by decide), Int.emod_lt_of_pos _ (by decide), rfl⟩
    · rintro σ H' ⟨m, c, rfl, h0, h1, rfl⟩
      refine ⟨_, rfl, a, _, rfl, .inl hS, fun l nl => ⟨_, rfl, (by show 4 ≤ sizeLine; decide), fun p np => ?_⟩⟩
      have npl : p ≠ l := fun e => by rw [e, upd_same] at np; cases np
      have np0 : H' p = none := by rw [upd_ne npl] at np; exact np
      refine q _ p l ((same_new nl).trans (same_new np)) np0 nl ⟨0, 0, m, ns, upd_same, ?_, by decide, by decide, by omega, hlen, h0, h1⟩
      rw [upd_ne npl.symm, upd_same]
theorem ok_law_draw (T : Tx w K mg) : FnOk P w K mg base CX0 1 T.a_law_draw T.d_law_draw ["stream", "many"] sp_law_draw := by
  refine T.F_law_draw.ok sc_law_draw (fun vs H Q E h => ?_) (fun cdv A outer s H vs Q E hr h => ?_)
  · obtain ⟨p, q, many, rfl, _⟩ := h
    rfl
  · obtain ⟨p, q, many, rfl, hS, hm0, hm1, k⟩ := h
    refine ⟨_, (C8.pss_cut (ps_if (PW.pt (pw_and (pt_cmpR op_eq (pe_ix ix_list (pv 0) pe_int (fun _ _ => rfl)) pe_int (nomark _)) (pw_and1 (pt_cmpR op_lt (pe_ix ix_list (pv 0) pe_int (fun _ _ => rfl)) (pe_callB call_len_seq (by rfl) T.z_len (by decide +kernel) (pa_cons (pe_ix ix_list (pv 0) pe_int (fun _ _ => rfl)) pa_nil)) (nomark _))))) (pss_cons (ps_asg (pe_callB call_abs (by rfl) T.z_abs (by decide +kernel) (pa_cons (pe_callTy call_int1 (by rfl) T.z_int (by decide +kernel) (pa_cons (pe_ix ix_list (pe_ix ix_list (pv 0) pe_int (fun _ _ => rfl)) (pe_ix ix_list (pv 0) pe_int (fun _ _ => rfl)) (fun _ _ => rfl)) pa_nil)) pa_nil)) (pg_sub (pv 0) pe_int set_list))
      (pss_one (ps_asg (pe_op op_add (pe_ix ix_list (pv 0) pe_int (fun _ _ => rfl)) pe_int) (pg_sub (pv 0) pe_int set_list)))) pss_nil)
      (pss_cons (ps_if (pt_cmpR op_eq (pe_ix ix_list (pv 0) pe_int (fun _ _ => rfl)) pe_int (nomark _)) (pss_cons (ps_asg (pe_op op_mod (pe_callTy call_int1 (by rfl) T.z_int (by decide +kernel) (pa_cons (pe_op op_add (pe_op op_mul (pe_ix ix_list (pv 0) pe_int (fun _ _ => rfl)) pe_int) pe_int) pa_nil)) pe_int) (pg_sub (pv 0) pe_int set_list))
      (pss_one (ps_ret (pe_op op_mod (pe_callTy call_int1 (by rfl) T.z_int (by decide +kernel) (pa_cons (pe_op op_fdivW (pe_ix ix_list (pv 0) pe_int (fun _ _ => rfl)) pe_int) pa_nil)) (pv 1))))) pss_nil)
      (pss_cons (ps_set (i := 2) sc_law_draw.nd rfl (.inl rfl) (pe_op op_mod (pe_callTy call_int1 (by rfl) T.z_int (by decide +kernel) (pa_cons (pe_ix ix_list (pv 0) pe_int (fun _ _ => rfl)) pa_nil)) (pv 1)))
      (pss_cons (ps_asg (pe_op op_fdivW (pe_ix ix_list (pv 0) pe_int (fun _ _ => rfl)) (pv 1)) (pg_sub (pv 0) pe_int set_list))
      (pss_one (ps_ret (pv 2))))))), ?_⟩
    refine ⟨fun σ' H' => σ' = [some (.ref p), some (.int many), none] ∧ But p H H' ∧ Strm q H' p, ?_, ?_⟩
    · have hS0 := hS
      obtain ⟨cur, pos, mixed, ns, e1, e2, c0, p0, p1, l63, m0, m1⟩ := hS
      have nqp : q ≠ p := hS0.pq
      refine ⟨_, rfl, p, _, 1, _, rfl, rfl, SqL.of e1, rfl, rfl, _, rfl, ite2 (fun z1 => ?_) (fun z1 => iteF ⟨rfl, .refl, hS0⟩)⟩
      refine ⟨_, rfl, p, _, 2, _, rfl, rfl, SqL.of e1, rfl, _, rfl, p, _, 0, _, rfl, rfl, SqL.of e1, rfl, q, _, rfl, .inl (SqL.of e2), _, _, rfl, rfl, _, rfl, ite2 (fun z2 => ?_) (fun z2 => ⟨rfl, .refl, hS0⟩)⟩
      have hlt : pos < ns.length := by
        have z3 := of_decide_eq_true z2
        rw [List.length_map] at z3
        exact z3
      obtain ⟨j, rfl⟩ : ∃ j : Nat, pos = (j : Int) := ⟨pos.toNat, by omega⟩
      have hj : j < ns.length := by omega
      have g : (ns.map V.int)[j]? = some (.int ns[j]) := by
        rw [List.getElem?_map, List.getElem?_eq_getElem hj]
        rfl
      refine ⟨_, rfl, p, _, 0, _, rfl, rfl, SqL.of e1, rfl, _, rfl, p, _, 2, _, rfl, rfl, SqL.of e1, rfl, q, _, _, _, rfl, rfl, SqL.of e2, atI_nat g, .inl ⟨_, rfl, _, rfl, ?_⟩⟩
      refine ⟨_, rfl, p, _, 1, 1, rfl, rfl, e1, rfl, ?_⟩
      refine ⟨_, rfl, p, _, 2, _, rfl, rfl, SqL.of upd_same, rfl, _, _, rfl, rfl, _, rfl, p, _, 2, 2, rfl, rfl, upd_same, rfl, ?_⟩
      refine ⟨rfl, But.upd (But.upd .refl), (if ns[j] < 0 then -ns[j] else ns[j]), (j : Int) + 1, mixed, ns, upd_same, ?_, by split <;> omega, by omega, by omega, l63, m0, m1⟩
      rw [upd_ne nqp, upd_ne nqp]
      exact e2
    · rintro σ' H' ⟨rfl, hB, hS2⟩
      have nqp : q ≠ p := hS2.pq
      obtain ⟨cur, pos, mixed, ns, e1, e2, c0, p0, p1, l63, m0, m1⟩ := hS2
      refine ⟨_, rfl, p, _, 1, _, rfl, rfl, SqL.of e1, rfl, rfl, _, rfl, ite2 (fun z1 => ?_) (fun z1 => ?_)⟩
      · refine ⟨_, rfl, p, _, 3, _, rfl, rfl, SqL.of e1, rfl, _, _, rfl, rfl, .inl ⟨by omega, by omega⟩, _, _, rfl, rfl, .inl ⟨_, rfl, _, _, rfl, rfl, (by show (0 : Int) < 2147483647; decide), ?_⟩⟩
        refine ⟨_, rfl, p, _, 3, 3, rfl, rfl, e1, rfl, ?_⟩
        refine ⟨_, rfl, p, _, 3, _, rfl, rfl, SqL.of upd_same, rfl, _, _, rfl, rfl, wide_div (b := 8) (by decide) (by decide) (by decide) (by decide), .inl ⟨_, rfl, _, rfl, _, _, rfl, rfl, hm0, ?_⟩⟩
        refine k _ _ (Int.emod_nonneg _ (by omega)) (Int.emod_lt_of_pos _ hm0) (But.upd hB) ⟨cur, pos, _, ns, upd_same, by rw [upd_ne nqp]; exact e2, c0, p0, p1, l63, Int.emod_nonneg _ (by decide), Int.emod_lt_of_pos _ (by decide)⟩
      · refine ⟨_, rfl, p, _, 1, _, rfl, rfl, SqL.of e1, rfl, .inl ⟨_, rfl, _, rfl, _, _, rfl, rfl, hm0, ?_⟩⟩
        have hw : CDivW cur many := wide_div (b := 100) hm0 (by omega) (by decide) (by decide)
        refine ⟨_, rfl, p, _, 1, _, rfl, rfl, SqL.of e1, rfl, _, rfl, _, _, rfl, rfl, hw, _, rfl, p, _, 1, 1, rfl, rfl, e1, rfl, _, rfl, ?_⟩
        exact k _ _ (Int.emod_nonneg _ (by omega)) (Int.emod_lt_of_pos _ hm0) (But.upd hB) ⟨_, pos, _, ns, upd_same, by rw [upd_ne nqp]; exact e2, Int.ediv_nonneg c0 (by omega), p0, p1, l63, m0, m1⟩

/-! ### data that stands while lists are filled -/
theorem Off.but {M : Addr → Prop} {p : Addr} {H H' : Hp} (h : But p H H') (m : M p) : Off M H H' := fun b o n e => h b o (fun z => n (by rw [z]; exact m)) e
theorem Off.upd {M : Addr → Prop} {a : Addr} {H : Hp} {o : HO} (m : M a) : Off M H (L2.upd H a o) := fun b u n e => by
  rw [upd_ne (fun z => n (by rw [z]; exact m))]
  exact e
abbrev M1 (p : Addr) : Addr → Prop := fun b => b = p
abbrev M2' (p q : Addr) : Addr → Prop := fun b => b = p ∨ b = q
theorem But.out {p B : Addr} {H H1 : Hp} {o : HO} (h : But p H H1) (n : H B = none) : But p H (L2.upd H1 B o) := fun b u np e => by
  rw [upd_ne (ne_of_none e n)]
  exact h b u np e
/-! ### a launch that is drawn -/
theorem But.free {p C : Addr} {H H1 : Hp} (h : But p H H1) (n : H1 C = none) (np : C ≠ p) : H C = none := by
  cases e : H C with
  | none => rfl
  | some o => rw [h C o np e] at n; cases n
theorem same_new2 {H : Hp} {d : Addr} {o u : HO} (h : H d = none) : Same H (L2.upd (L2.upd H d o) d u) := fun b x e => by
  rw [upd_ne (ne_of_none e h), upd_ne (ne_of_none e h)]
  exact e
def sp_law_params (K : PySem.W.Frag) : Sp := fun vs H Q _ => ∃ p q : Addr, vs = [.ref p] ∧ Strm q H p ∧ ∀ (r : V) H' (ps : List (Str × Bool)) (sh : List PyData), ps.length ≤ 4 → But p H H' → Strm q H' p → Dt (M1 p) K H' r (.tuple [.tuple (ps.map pairD), .tuple sh]) → Q r H'
def isIntN : Str → Bool := fun n => decide (n = "n") || decide (n = "m")
theorem kinds_at (n : Str) (h : n = "a" ∨ n = "n" ∨ n = "b" ∨ n = "m") : (valV (mergeK [] [((Sum.inr "a" : Key), V.str "buffer"), (Sum.inr "b", V.str "buffer")]) (Sum.inr n)).getD (V.str "int") = V.str (sortS (isIntN n)) := by
  rcases h with rfl | rfl | rfl | rfl <;> kernel_rfl
theorem ok_law_params (T : Tx w K mg) : FnOk P w K mg base CX0 2 T.a_law_params T.d_law_params ["stream"] (sp_law_params K) := by
  refine T.F_law_params.ok sc_law_params (fun vs H Q E h => ?_) (fun cdv A outer s H vs Q E hr h => ?_)
  · obtain ⟨p, q, rfl, _⟩ := h
    rfl
  · obtain ⟨p, q, rfl, hS, k⟩ := h
    refine ⟨_, (pss_cons (ps_set (i := 1) sc_law_params.nd rfl (.inl rfl) (pe_lst pa_nil))
      (pss_cons (ps_for PassesOwn.never rfl (pi_tup (pe_tup (pa_cons pe_str (pa_cons pe_str (pa_cons pe_str (pa_cons pe_str pa_nil)))))) (pg_name (i := 2) sc_law_params.nd rfl (.inl rfl)) (pss_one (ps_if (pt_cmpR op_gt (pe_call (ok_law_draw T) (hr.mono (by decide)) (by rfl) T.g_law_draw T.F_law_draw.kp T.b_law_draw .nil pass0 (pa_cons (pv 0) (pa_cons pe_int pa_nil))) pe_int (nomark _)) (pss_one (ps_expr (pe_bm PySem.F.plainAttrs_list PySem.F.slot_list_append PySem.F.type_list_append mt_append (pv 1) (pa_cons (pe_tup (pa_cons (pv 2) (pa_cons (pe_dget2 (hu_of hr) (pe_disp (pps_cons pe_str pe_str (pps_cons pe_str pe_str pps_nil)) (by rfl) (by rfl) (fun z => by cases z) (by decide)) (pv 2) pe_str ⟨rfl, rfl, by decide, rfl⟩) pa_nil))) pa_nil)))) pss_nil)))
      (pss_cons (ps_set (i := 3) sc_law_params.nd rfl (.inl rfl) (pe_lst pa_nil))
      (pss_cons (ps_for PassesOwn.never rfl (pi_tup (pe_tup (pa_cons pe_str (pa_cons pe_str pa_nil)))) (pg_name (i := 2) sc_law_params.nd rfl (.inl rfl)) (pss_one (ps_if (pt_cmpR op_eq (pe_call (ok_law_draw T) (hr.mono (by decide)) (by rfl) T.g_law_draw T.F_law_draw.kp T.b_law_draw .nil pass0 (pa_cons (pv 0) (pa_cons pe_int pa_nil))) pe_int (nomark _)) (pss_one (ps_expr (pe_bm PySem.F.plainAttrs_list PySem.F.slot_list_append PySem.F.type_list_append mt_append (pv 3) (pa_cons (pe_tup (pa_cons (pv 2) (pa_cons (pe_op op_add pe_int (pe_call (ok_law_draw T) (hr.mono (by decide)) (by rfl) T.g_law_draw T.F_law_draw.kp T.b_law_draw .nil pass0 (pa_cons (pv 0) (pa_cons (pe_ix ix_list (pe_lst (pa_cons pe_int (pa_cons pe_int pa_nil))) (pe_call (ok_law_draw T) (hr.mono (by decide)) (by rfl) T.g_law_draw T.F_law_draw.kp T.b_law_draw .nil pass0 (pa_cons (pv 0) (pa_cons pe_int pa_nil))) (fun _ _ => rfl)) pa_nil)))) pa_nil))) pa_nil)))) pss_nil)))
      (pss_one (ps_ret (pe_tup (pa_cons (pe_callTy call_tuple_of (by rfl) T.z_tuple (by decide +kernel) (pa_cons (pv 1) pa_nil)) (pa_cons (pe_callTy call_tuple_of (by rfl) T.z_tuple (by decide +kernel) (pa_cons (pv 3) pa_nil)) pa_nil))))))))), ?_⟩
    refine ⟨Nat.zero_le _, fun B nB => ?_⟩
    have hBp : B ≠ p := hS.nep nB
    have hBq : B ≠ q := hS.neq nB
    refine ⟨(by show 4 ≤ sizeLine; decide), fun tn ntn => ?_⟩
    have hBt : B ≠ tn := fun e => by rw [← e, upd_same] at ntn; cases ntn
    refine ⟨tn, rfl, ⟨_, SqT.of upd_same⟩, for_tup (K := K) (a := tn) (xs := [.str "a", .str "n", .str "b", .str "m"]) (fun i σ H' => ∃ (y2 : Option V) (vs : List V) (ps : List (Str × Bool)), σ = [some (.ref p), some (.ref B), y2, none] ∧ i ≤ 4 ∧ ps.length ≤ i ∧ H' tn = some (.tup [.str "a", .str "n", .str "b", .str "m"]) ∧ H' B = some (.lst vs) ∧ DtAll (M2' p B) K H' vs (ps.map pairD) ∧ But p H H' ∧ Strm q H' p) ⟨none, [], [], rfl, by decide, by decide, upd_same, by rw [upd_ne hBt, upd_same], .nil, ?_, ?_⟩ (fun i σ H' _ ⟨_, _, _, _, _, _, h, _⟩ => SqT.of h) ?_ ?_⟩
    · exact (But.out (But.refl) nB).same (same_new5 ntn)
    · exact (hS.same (same_new5 nB)).same (same_new5 ntn)
    · rintro i x σ H1 hx ⟨y2, vs, ps, rfl, hi, hl, ht, hB, hd, bt, S1⟩
      have hi4 : i < 4 := (List.getElem?_eq_some_iff.mp hx).1
      obtain ⟨n, rfl, hn⟩ : ∃ n : Str, x = .str n ∧ (n = "a" ∨ n = "n" ∨ n = "b" ∨ n = "m") := by
        match i, hx with
        | 0, h => exact ⟨_, (Option.some.inj h).symm, .inl rfl⟩
        | 1, h => exact ⟨_, (Option.some.inj h).symm, .inr (.inl rfl)⟩
        | 2, h => exact ⟨_, (Option.some.inj h).symm, .inr (.inr (.inl rfl))⟩
        | 3, h => exact ⟨_, (Option.some.inj h).symm, .inr (.inr (.inr rfl))⟩
        | j + 4, h => cases h
      have htp : tn ≠ p := fun e => by
        obtain ⟨cur, pos, mixed, ns, e1, _⟩ := S1
        rw [← e, ht] at e1
        cases e1
      refine ⟨_, rfl, p, q, 4, rfl, S1, by decide, by decide, fun u H2 u0 u1 b2 S2 => ⟨_, _, rfl, rfl, _, rfl, ?_⟩⟩
      have hB2 := b2 _ _ hBp hB
      have ht2 := b2 _ _ htp ht
      have hd2 : DtAll (M2' p B) K H2 vs (ps.map pairD) := hd.off (Off.but b2 (.inl rfl))
      have bt2 := bt.trans b2
      refine ite2 (fun z => ?_) (fun z => ⟨_, vs, ps, rfl, by omega, by omega, ht2, hB2, hd2, bt2, S2⟩)
      refine ⟨_, rfl, .inl ⟨rfl, _, SqL.of hB2⟩, _, rfl, ?_⟩
      intro d nd
      refine ⟨upd_same, [((Sum.inr "a" : Key), V.str "buffer"), (Sum.inr "b", V.str "buffer")], rfl, (by show 2 ≤ 15; decide), d, rfl, .inl ⟨_, .inl upd_same⟩, _, rfl, _, DGet.k (k := Sum.inr n) upd_same, ?_⟩
      rw [kinds_at n hn]
      refine ⟨(by show 2 ≤ sizeLine; decide), fun t nt => ?_⟩
      have sm1 : Same H2 (upd (upd H2 d (.dK [])) d (.dK (mergeK [] [((Sum.inr "a" : Key), V.str "buffer"), (Sum.inr "b", V.str "buffer")]))) := same_new2 nd
      have nt2 : ∀ b o, H2 b = some o → b ≠ t := fun b o e => ne_of_none (sm1 _ _ e) nt
      have sm := sm1.trans (same_new5 (o := .tup [.str n, .str (sortS (isIntN n))]) nt)
      have hB3 := sm _ _ hB2
      refine ⟨B, vs, _, rfl, rfl, hB3, ?_, ?_⟩
      · have := hd.len
        rw [List.length_map] at this
        exact small1000 (by omega)
      · have hBt2 : B ≠ t := nt2 _ _ hB2
        refine ⟨_, _, ps ++ [(n, isIntN n)], rfl, by omega, by rw [List.length_append]; show ps.length + 1 ≤ i + 1; omega, ?_, upd_same, ?_, ?_, ?_⟩
        · rw [upd_ne (fun e => by rw [e, hB2] at ht2; cases ht2)]
          exact sm _ _ ht2
        · rw [List.map_append]
          refine DtAll.app ((hd2.off (Off.of sm)).off (Off.upd (.inr rfl))) (.cons (.laid (a := t) (fun m => ?_) ?_ (.cons (.str _) (.cons (.str _) .nil))) .nil)
          · rcases m with m | m
            · obtain ⟨cur, pos, mixed, ns, e1, _⟩ := S2
              exact nt2 _ _ e1 m.symm
            · exact hBt2 m.symm
          · rw [upd_ne hBt2.symm, upd_same]
        · exact But.out (bt2.same sm) nB
        · exact (S2.same sm).upd hBp hBq
    · rintro σ H1 ⟨y2, vs, ps, rfl, hi, hl, ht, hB, hd, bt, S1⟩
      refine ⟨Nat.zero_le _, fun C nC => ?_⟩
      have hCp : C ≠ p := S1.nep nC
      have hCq : C ≠ q := S1.neq nC
      have hBC : B ≠ C := ne_of_none hB nC
      refine ⟨(by show 2 ≤ sizeLine; decide), fun tm ntm => ?_⟩
      have hCt : C ≠ tm := fun e => by rw [← e, upd_same] at ntm; cases ntm
      have sC : Same H1 (upd H1 C (.lst [])) := same_new5 nC
      have hBtm : B ≠ tm := ne_of_none (sC _ _ hB) ntm
      refine ⟨tm, rfl, ⟨_, SqT.of upd_same⟩, for_tup (K := K) (a := tm) (xs := [.str "s", .str "t"]) (fun i σ H' => ∃ (y2 : Option V) (us : List V) (sh : List PyData), σ = [some (.ref p), some (.ref B), y2, some (.ref C)] ∧ us.length ≤ i ∧ i ≤ 2 ∧ H' tm = some (.tup [.str "s", .str "t"]) ∧ H' B = some (.lst vs) ∧ H' C = some (.lst us) ∧ DtAll (M2' p C) K H' us sh ∧ DtAll (M2' p C) K H' vs (ps.map pairD) ∧ But p H H' ∧ Strm q H' p) ⟨y2, [], [], rfl, by decide, by decide, upd_same, ?_, by rw [upd_ne hCt, upd_same], .nil, ?_, ?_, ?_⟩ (fun i σ H' _ ⟨_, _, _, _, _, _, h, _⟩ => SqT.of h) ?_ ?_⟩
      · rw [upd_ne hBtm, upd_ne hBC]; exact hB
      · exact (hd.more (N := M2' p C) (fun b m => m.elim (fun e => .inl (.inl e)) (fun e => .inr (by rw [e]; exact nC)))).off (Off.of (sC.trans (same_new5 ntm)))
      · exact (But.out bt (bt.free nC hCp)).same (same_new5 ntm)
      · exact (S1.same sC).same (same_new5 ntm)
      · rintro i x σ H2 hx ⟨y2, us, sh, rfl, hul, hi, ht, hB2, hC, hd2, hd3, bt2, S2⟩
        have hi2 : i < 2 := (List.getElem?_eq_some_iff.mp hx).1
        obtain ⟨n, rfl⟩ : ∃ n : Str, x = .str n := by
          match i, hx with
          | 0, h => exact ⟨_, (Option.some.inj h).symm⟩
          | 1, h => exact ⟨_, (Option.some.inj h).symm⟩
          | j + 2, h => cases h
        have htp : tm ≠ p := fun e => by
          obtain ⟨cur, pos, mixed, ns, e1, _⟩ := S2
          rw [← e, ht] at e1
          cases e1
        have htC : tm ≠ C := hCt.symm
        refine ⟨_, rfl, p, q, 2, rfl, S2, by decide, by decide, fun u H3 u0 u1 b3 S3 => ⟨rfl, _, rfl, ite2 (fun z => ?_) (fun z => ?_)⟩⟩
        · have hC3 := b3 _ _ hCp hC
          refine ⟨_, rfl, .inl ⟨rfl, _, SqL.of hC3⟩, _, rfl, _, rfl, (by show 2 ≤ sizeLine; decide), fun l nl => ?_⟩
          have s3 : Same H3 (upd H3 l (.lst [.int 6, .int 16])) := same_new5 nl
          have hlp : l ≠ p := S3.nep nl
          refine ⟨_, rfl, p, q, 2, rfl, S3.same s3, by decide, by decide, fun u2 H4 v0 v1 b4 S4 => ?_⟩
          have hl4 := b4 _ _ hlp upd_same
          obtain ⟨m, em, m0, m1⟩ : ∃ m : Int, atI [V.int 6, V.int 16] u2 = some (.int m) ∧ 0 < m ∧ m < 2 ^ 100 := by
            have : u2 = 0 ∨ u2 = 1 := by omega
            rcases this with rfl | rfl
            · exact ⟨6, rfl, by decide, by decide⟩
            · exact ⟨16, rfl, by decide, by decide⟩
          refine ⟨l, _, _, _, rfl, rfl, SqL.of hl4, em, p, q, m, rfl, S4, m0, m1, fun u3 H5 w0 w1 b5 S5 => ⟨_, _, rfl, rfl, (by show 2 ≤ sizeLine; decide), fun t nt => ?_⟩⟩
          have b35 : But p H2 H5 := ((b3.same s3).trans b4).trans b5
          have hC5 := b35 _ _ hCp hC
          have hB5 := b35 _ _ hBp hB2
          have ht5 := b35 _ _ htp ht
          have s6 : Same H5 (upd H5 t (.tup [.str n, .int (1 + u3)])) := same_new5 nt
          have o25 : Off (M2' p C) H2 (upd (upd H5 t (.tup [.str n, .int (1 + u3)])) C (.lst (us ++ [.ref t]))) := ((Off.but b35 (.inl rfl)).trans (Off.of s6)).trans (Off.upd (.inr rfl))
          have htC2 : C ≠ t := ne_of_none hC5 nt
          refine ⟨C, us, _, rfl, rfl, s6 _ _ hC5, small1000 (by omega), ?_⟩
          refine ⟨_, us ++ [.ref t], sh ++ [.tuple [.str n, .int (1 + u3)]], rfl, by rw [List.length_append]; show us.length + 1 ≤ i + 1; omega, by omega, ?_, ?_, upd_same, ?_, hd3.off o25, ?_, (S5.same s6).upd hCp hCq⟩
          · rw [upd_ne htC]; exact s6 _ _ ht5
          · rw [upd_ne hBC]; exact s6 _ _ hB5
          · refine DtAll.app (hd2.off o25) (.cons (.laid (a := t) (fun m => ?_) ?_ (.cons (.str _) (.cons (.int _) .nil))) .nil)
            · rcases m with m | m
              · exact S5.nep nt m
              · exact htC2 m.symm
            · rw [upd_ne htC2.symm, upd_same]
          · exact But.out ((bt2.trans b35).same s6) (bt.free nC hCp)
        · exact ⟨_, us, sh, rfl, by omega, by omega, b3 _ _ htp ht, b3 _ _ hBp hB2, b3 _ _ hCp hC, hd2.off (Off.but b3 (.inl rfl)), hd3.off (Off.but b3 (.inl rfl)), bt2.trans b3, S3⟩
      · rintro σ H2 ⟨y2, us, sh, rfl, hul, hi, ht, hB2, hC, hd2, hd3, bt2, S2⟩
        refine ⟨_, rfl, B, vs, rfl, .inl ⟨SqL.of hB2, fun t1 nt1 => ?_⟩⟩
        have s1 : Same H2 (upd H2 t1 (.tup vs)) := same_new5 nt1
        refine ⟨_, rfl, C, us, rfl, .inl ⟨SqL.of (s1 _ _ hC), fun t2 nt2 => ?_⟩⟩
        have s2 : Same _ (upd (upd H2 t1 (.tup vs)) t2 (.tup us)) := same_new5 nt2
        refine ⟨(by show 2 ≤ sizeLine; decide), fun t3 nt3 => ?_⟩
        have s3 : Same _ (upd (upd (upd H2 t1 (.tup vs)) t2 (.tup us)) t3 (.tup [.ref t1, .ref t2])) := same_new5 nt3
        have sA := (s1.trans s2).trans s3
        have wk : ∀ b, M1 p b → M2' p C b ∨ H2 b = none := fun b m => .inl (.inl m)
        have h1 : (upd (upd (upd H2 t1 (.tup vs)) t2 (.tup us)) t3 (.tup [.ref t1, .ref t2])) t1 = some (.tup vs) := (s2.trans s3) _ _ upd_same
        have h2 : (upd (upd (upd H2 t1 (.tup vs)) t2 (.tup us)) t3 (.tup [.ref t1, .ref t2])) t2 = some (.tup us) := s3 _ _ upd_same
        refine k _ _ ps sh (by omega) (bt2.same sA) (S2.same sA) (.laid ?_ upd_same (.cons (.laid ?_ h1 ((hd3.more wk).off (Off.of sA))) (.cons (.laid ?_ h2 ((hd2.more wk).off (Off.of sA))) .nil)))
        · exact (S2.same (s1.trans s2)).nep nt3
        · exact S2.nep nt1
        · exact (S2.same s1).nep nt2

def sp_law_launch (K : PySem.W.Frag) : Sp := fun vs H Q _ => ∃ (p q : Addr) (kv : V) (ps : List (Str × Bool)) (rest : List PyData), vs = [.ref p, kv] ∧ Strm q H p ∧ Dt (M1 p) K H kv (.tuple (.tuple (ps.map pairD) :: rest)) ∧ ps.length ≤ 4 ∧
  ∀ (r : V) H' (d : PyData), launchD (ps.map (·.2)) d = true → But p H H' → Strm q H' p → Dt (M1 p) K H' r d → Q r H'
theorem argsAll_snoc (many : Int) : ∀ (bs : List Bool) (ds : List PyData) (b : Bool) (d : PyData), argsAll many bs ds = true → argD b many d = true → argsAll many (bs ++ [b]) (ds ++ [d]) = true
  | [], [], b, d, _, h => by show (argD b many d && true) = true; rw [h]; rfl
  | x :: bs, y :: ds, b, d, h, g => by
    replace h : (argD x many y && argsAll many bs ds) = true := h
    rw [Bool.and_eq_true] at h
    show (argD x many y && argsAll many (bs ++ [b]) (ds ++ [d])) = true
    rw [h.1, argsAll_snoc many bs ds b d h.2 g]; rfl
  | [], _ :: _, _, _, h, _ => by cases h
  | _ :: _, [], _, _, h, _ => by cases h
theorem numIn_of {lo hi i : Int} (h0 : lo ≤ i) (h1 : i ≤ hi) : numIn lo hi (.int i) = true := by
  show (decide (lo ≤ i) && decide (i ≤ hi)) = true
  rw [decide_eq_true h0, decide_eq_true h1]; rfl
theorem pick2 {x y : Int} {k : Bool} : ∃ m : Int, atI [V.int x, V.int y] (if k = true then 1 else 0) = some (.int m) ∧ (m = x ∨ m = y) := by
  cases k
  · exact ⟨x, rfl, .inl rfl⟩
  · exact ⟨y, rfl, .inr rfl⟩
theorem pick2i {x y u : Int} (h0 : 0 ≤ u) (h1 : u < 2) : ∃ m : Int, atI [V.int x, V.int y] u = some (.int m) ∧ (m = x ∨ m = y) := by
  have : u = 0 ∨ u = 1 := by omega
  rcases this with rfl | rfl
  · exact ⟨x, rfl, .inl rfl⟩
  · exact ⟨y, rfl, .inr rfl⟩
theorem words6 {u : Int} (h0 : 0 ≤ u) (h1 : u < 6) : ∃ m : Int, atI [V.int 0, .int 1, .int 2, .int 5, .int (-1), .int (2 ^ (31 : Int).toNat - 1)] u = some (.int m) ∧ wordD (.int m) = true := by
  have : u = 0 ∨ u = 1 ∨ u = 2 ∨ u = 3 ∨ u = 4 ∨ u = 5 := by omega
  rcases this with rfl | rfl | rfl | rfl | rfl | rfl <;> exact ⟨_, rfl, by decide +kernel⟩
theorem ok_law_launch (T : Tx w K mg) : FnOk P w K mg base CX0 2 T.a_law_launch T.d_law_launch ["stream", "kernel"] (sp_law_launch K) := by
  refine T.F_law_launch.ok sc_law_launch (fun vs H Q E h => ?_) (fun cdv A outer s H vs Q E hr h => ?_)
  · obtain ⟨p, q, kv, ps, rest, rfl, _⟩ := h
    rfl
  · obtain ⟨p, q, kv, ps, rest, rfl, hS, hk, hpl, k⟩ := h
    refine ⟨_, (pss_cons (ps_set (i := 2) sc_law_launch.nd rfl (.inl rfl) (pe_lst pa_nil))
      (pss_cons (ps_for PassesOwn.never rfl (pi_range1 (by rfl) T.z_range (pa_cons (pe_op op_add pe_int (pe_call (ok_law_draw T) (hr.mono (by decide)) (by rfl) T.g_law_draw T.F_law_draw.kp T.b_law_draw .nil pass0 (pa_cons (pv 0) (pa_cons pe_int pa_nil)))) pa_nil)) (pg_name (i := 3) sc_law_launch.nd rfl (.inl rfl)) (pss_cons (ps_set (i := 4) sc_law_launch.nd rfl (.inl rfl) (pe_call (ok_law_draw T) (hr.mono (by decide)) (by rfl) T.g_law_draw T.F_law_draw.kp T.b_law_draw .nil pass0 (pa_cons (pv 0) (pa_cons (pe_ix ix_list (pe_lst (pa_cons pe_int (pa_cons pe_int pa_nil))) (pe_callTy call_int1 (by rfl) T.z_int (by decide +kernel) (pa_cons (pe_cmpR op_eq (pe_call (ok_law_draw T) (hr.mono (by decide)) (by rfl) T.g_law_draw T.F_law_draw.kp T.b_law_draw .nil pass0 (pa_cons (pv 0) (pa_cons pe_int pa_nil))) pe_int (nomark _)) pa_nil)) (fun _ _ => rfl)) pa_nil))))
      (pss_one (ps_expr (pe_bm PySem.F.plainAttrs_list PySem.F.slot_list_append PySem.F.type_list_append mt_append (pv 2) (pa_cons (pe_callTy call_tuple_of (by rfl) T.z_tuple (by decide +kernel) (pa_cons (pe_lc (own := [("j", 9)]) (g := gName 9) (tt := tYes) rfl sc_law_launch.nd (pi_range1 (by rfl) T.z_range (pa_cons (pv 4) pa_nil)) (blkOk_by (N := ["stream", "kernel", "buffers", "k", "many", "arguments", "name", "kind", "block", "j"]) (sc := defScope s_law_launch) (by decide +kernel)) (fun _ _ _ _ _ => (pg_name (i := 9) sc_law_launch.nd rfl (.inl rfl))) (fun _ _ _ _ _ => pts_nil) (fun _ _ _ _ _ => (pe_op op_sub (pe_call (ok_law_draw T) (hr.mono (by decide)) (by rfl) T.g_law_draw T.F_law_draw.kp T.b_law_draw .nil pass0 (pa_cons (pv 0) (pa_cons pe_int pa_nil))) pe_int))) pa_nil)) pa_nil))))))
      (pss_cons (ps_set (i := 5) sc_law_launch.nd rfl (.inl rfl) (pe_lst pa_nil))
      (pss_cons (ps_for PassesOwn.never rfl (pi_tup (pe_ix ix_tup (pv 1) pe_int (fun _ _ => rfl))) (pg_tup rfl (pgs_cons (pg_name (i := 6) sc_law_launch.nd rfl (.inl rfl)) (pgs_cons (pg_name (i := 7) sc_law_launch.nd rfl (.inl rfl)) pgs_nil))) (pss_one (ps_if (pt_cmpR op_eq (pv 7) pe_str (nomark _)) (pss_one (ps_expr (pe_bm PySem.F.plainAttrs_list PySem.F.slot_list_append PySem.F.type_list_append mt_append (pv 5) (pa_cons (pe_ix ix_list (pe_lst (pa_cons pe_int (pa_cons pe_int (pa_cons pe_int (pa_cons pe_int (pa_cons (pe_un un_neg pe_int) (pa_cons (pe_op op_sub (pe_op op_pow pe_int pe_int) pe_int) pa_nil))))))) (pe_call (ok_law_draw T) (hr.mono (by decide)) (by rfl) T.g_law_draw T.F_law_draw.kp T.b_law_draw .nil pass0 (pa_cons (pv 0) (pa_cons pe_int pa_nil))) (fun _ _ => rfl)) pa_nil)))) (pss_one (ps_expr (pe_bm PySem.F.plainAttrs_list PySem.F.slot_list_append PySem.F.type_list_append mt_append (pv 5) (pa_cons (pe_call (ok_law_draw T) (hr.mono (by decide)) (by rfl) T.g_law_draw T.F_law_draw.kp T.b_law_draw .nil pass0 (pa_cons (pv 0) (pa_cons (pe_callB call_len_seq (by rfl) T.z_len (by decide +kernel) (pa_cons (pv 2) pa_nil)) pa_nil))) pa_nil)))))))
      (pss_cons (ps_set (i := 8) sc_law_launch.nd rfl (.inl rfl) (pe_op op_add pe_int (pe_call (ok_law_draw T) (hr.mono (by decide)) (by rfl) T.g_law_draw T.F_law_draw.kp T.b_law_draw .nil pass0 (pa_cons (pv 0) (pa_cons (pe_op op_add pe_int (pe_op op_mul pe_int (pe_callTy call_int1 (by rfl) T.z_int (by decide +kernel) (pa_cons (pe_cmpR op_eq (pe_call (ok_law_draw T) (hr.mono (by decide)) (by rfl) T.g_law_draw T.F_law_draw.kp T.b_law_draw .nil pass0 (pa_cons (pv 0) (pa_cons pe_int pa_nil))) pe_int (nomark _)) pa_nil)))) pa_nil)))))
      (pss_one (ps_ret (pe_tup (pa_cons (pe_op op_add pe_int (pe_call (ok_law_draw T) (hr.mono (by decide)) (by rfl) T.g_law_draw T.F_law_draw.kp T.b_law_draw .nil pass0 (pa_cons (pv 0) (pa_cons (pe_ix ix_list (pe_lst (pa_cons pe_int (pa_cons pe_int pa_nil))) (pe_call (ok_law_draw T) (hr.mono (by decide)) (by rfl) T.g_law_draw T.F_law_draw.kp T.b_law_draw .nil pass0 (pa_cons (pv 0) (pa_cons pe_int pa_nil))) (fun _ _ => rfl)) pa_nil)))) (pa_cons (pv 8) (pa_cons (pe_callTy call_tuple_of (by rfl) T.z_tuple (by decide +kernel) (pa_cons (pv 5) pa_nil)) (pa_cons (pe_callTy call_tuple_of (by rfl) T.z_tuple (by decide +kernel) (pa_cons (pv 2) pa_nil)) pa_nil)))))))))))), ?_⟩
    refine ⟨Nat.zero_le _, fun B nB => ?_⟩
    have hBp : B ≠ p := hS.nep nB
    have hBq : B ≠ q := hS.neq nB
    have S0 := hS.same (same_new5 (o := .lst []) nB)
    refine ⟨_, rfl, p, q, 4, rfl, S0, by decide, by decide, fun u0 H1 l0 l1 b1 S1 => ⟨_, _, rfl, rfl, _, rfl, by omega, by omega, ?_⟩⟩
    have hB1 := b1 _ _ hBp upd_same
    have bt1 : But p H H1 := fun b o n e => b1 b o n (same_new5 nB b o e)
    refine for_range (fun i σ H' => ∃ (y3 y4 : Option V) (us : List V) (bs : List PyData), σ = [some (.ref p), some kv, some (.ref B), y3, y4, none, none, none, none, none] ∧ us.length = i ∧ i ≤ 4 ∧ bs.all bufD = true ∧ H' B = some (.lst us) ∧ DtAll (M2' p B) K H' us bs ∧ But p H H' ∧ Strm q H' p) ⟨none, none, [], [], rfl, rfl, by decide, rfl, hB1, .nil, bt1, S1⟩ ?_ ?_
    · rintro i σ H2 hi ⟨y3, y4, us, bs, rfl, hul, hi4, hbs, hB2, hd2, bt2, S2⟩
      have hi3 : i < 4 := by omega
      refine ⟨_, rfl, (by show 2 ≤ sizeLine; decide), fun l nl => ?_⟩
      have hlp : l ≠ p := S2.nep nl
      refine ⟨_, rfl, p, q, 4, rfl, S2.same (same_new5 nl), by decide, by decide, fun v H3 v0 v1 b3 S3 => ⟨rfl, .inr ⟨_, rfl, ?_⟩⟩⟩
      obtain ⟨m, em, hm⟩ := pick2 (x := 9) (y := 25) (k := decide (V.int v = V.int 0))
      have hl3 := b3 _ _ hlp upd_same
      refine ⟨l, _, _, _, rfl, rfl, SqL.of hl3, em, p, q, m, rfl, S3, by omega, by omega, fun many H4 m0 m1 b4 S4 => ?_⟩
      have b24 : But p H2 H4 := fun b o n e => b4 b o n (b3 b o n (same_new5 nl b o e))
      have hB4 := b24 _ _ hBp hB2
      refine ⟨_, rfl, .inl ⟨rfl, _, SqL.of hB4⟩, _, rfl, _, rfl, by omega, by omega, fun D nD => lc_range (fun j H' => ∃ ns : List Int, H' D = some (.lst (ns.map V.int)) ∧ ns.length = j ∧ j ≤ 24 ∧ (ns.map PyData.int).all wordD = true ∧ But p H4 H' ∧ Strm q H' p) ⟨[], upd_same, rfl, by decide, rfl, (But.refl).out nD, S4.same (same_new5 nD)⟩ ?_ ?_⟩
      · rintro j H5 hj ⟨ns, hD5, hnl, hj24, hw, b5, S5⟩
        refine ⟨rfl, _, rfl, p, q, 9, rfl, S5, by decide, by decide, fun c H6 c0 c1 b6 S6 => ⟨_, _, rfl, rfl, ?_⟩⟩
        have hD6 := b6 _ _ (S4.nep nD) hD5
        refine ⟨_, hD6, ?_, ns ++ [c - 3], ?_, by rw [List.length_append]; show ns.length + 1 = j + 1; omega, by omega, ?_, (b5.trans b6).out nD, S6.upd (S4.nep nD) (S4.neq nD)⟩
        · rw [List.length_map]; exact small1000 (by omega)
        · rw [upd_same, List.map_append]; rfl
        · rw [List.map_append, List.all_append, hw]
          show (wordD (.int (c - 3)) && true) = true
          rw [show wordD (.int (c - 3)) = true from numIn_of (by omega) (by omega)]; rfl
      · rintro H5 ⟨ns, hD5, hnl, hj24, hw, b5, S5⟩
        refine ⟨D, _, rfl, .inl ⟨SqL.of hD5, fun t nt => ?_⟩⟩
        have b25 : But p H2 H5 := b24.trans b5
        have hB5 := b25 _ _ hBp hB2
        have s6 : Same H5 (upd H5 t (.tup (ns.map V.int))) := same_new5 nt
        have o : Off (M2' p B) H2 (upd (upd H5 t (.tup (ns.map V.int))) B (.lst (us ++ [.ref t]))) := ((Off.but b25 (.inl rfl)).trans (Off.of s6)).trans (Off.upd (.inr rfl))
        have hBt : B ≠ t := ne_of_none hB5 nt
        refine ⟨B, us, _, rfl, rfl, s6 _ _ hB5, small1000 (by omega), ?_⟩
        refine ⟨_, _, us ++ [.ref t], bs ++ [.tuple (ns.map PyData.int)], rfl, by rw [List.length_append]; show us.length + 1 = i + 1; omega, by omega, ?_, upd_same, ?_, But.out ((bt2.trans b25).same s6) nB, (S5.same s6).upd hBp hBq⟩
        · rw [List.all_append, hbs]
          show (true && ((decide ((ns.map PyData.int).length ≤ 24) && (ns.map PyData.int).all wordD) && true)) = true
          rw [hw, decide_eq_true (by rw [List.length_map]; omega)]; rfl
        · refine DtAll.app (hd2.off o) (.cons (.laid (a := t) (fun m => ?_) ?_ (DtAll.ints ns)) .nil)
          · rcases m with m | m
            · exact S5.nep nt m
            · exact hBt m.symm
          · rw [upd_ne hBt.symm, upd_same]
    rintro σ H2 ⟨y3, y4, us, bs, rfl, hul, hi4, hbs, hB2, hd2, bt2, S2⟩
    refine ⟨Nat.zero_le _, fun A nA => ?_⟩
    have hAp : A ≠ p := S2.nep nA
    have hAq : A ≠ q := S2.neq nA
    have hBA : B ≠ A := ne_of_none hB2 nA
    have sA : Same H2 (upd H2 A (.lst [])) := same_new5 nA
    have nA0 : H A = none := bt2.free nA hAp
    have hbl : us.length = bs.length := hd2.len
    cases hk with
    | @tup ak kvs kds hak rak =>
    cases rak with
    | @cons vp krest _ _ dp rak =>
    cases dp with
    | @tup ap pvs pds hap rap =>
    have epl : pvs.length = ps.length := by rw [rap.len, List.length_map]
    have k0 : atI (V.ref ap :: krest) (0 : Int) = some (.ref ap) := atI_nat (j := 0) rfl
    have oA : Off (M1 p) H (upd H2 A (.lst [])) := (Off.but (M := M1 p) bt2 rfl).trans (Off.of sA)
    refine ⟨_, rfl, ak, _, _, _, rfl, rfl, (hak.off oA).sq, k0, ap, rfl, ⟨_, (hap.off oA).sq⟩, for_tup (K := K) (a := ap) (xs := pvs) (fun i σ H' => ∃ (y6 y7 : Option V) (as : List V) (ds : List PyData), σ = [some (.ref p), some (.ref ak), some (.ref B), y3, y4, some (.ref A), y6, y7, none, none] ∧ i ≤ 4 ∧ ds.length = i ∧ argsAll (us.length : Int) ((ps.map (·.2)).take i) ds = true ∧ H' B = some (.lst us) ∧ H' A = some (.lst as) ∧ DtAll (M2' p A) K H' as ds ∧ DtAll (M2' p A) K H' us bs ∧ But p H H' ∧ Strm q H' p) ⟨none, none, [], [], rfl, by decide, rfl, rfl, sA _ _ hB2, upd_same, .nil, ?_, bt2.out nA0, S2.same sA⟩ (fun i σ H' _ ⟨_, _, _, _, _, _, _, _, _, _, _, _, e, _⟩ => (hap.off (Off.but (M := M1 p) e rfl)).sq) ?_ ?_⟩
    · exact (hd2.more (N := M2' p A) (fun b m => m.elim (fun e => .inl (.inl e)) (fun e => .inr (by rw [e]; exact nA)))).off (Off.of sA)
    · rintro i x σ H3 hx ⟨y6, y7, as, ds, rfl, hi, hdl, hargs, hB3, hA3, hd3, hd4, bt3, S3⟩
      obtain ⟨dx, edx, pdx⟩ := rap.get hx
      rw [List.getElem?_map] at edx
      obtain ⟨pr, epr, rfl⟩ := Option.map_eq_some_iff.mp edx
      have hi2 : i < ps.length := (List.getElem?_eq_some_iff.mp epr).1
      have hb : (ps.map (·.2))[i]? = some pr.2 := by rw [List.getElem?_map, epr]; rfl
      have etk : (ps.map (·.2)).take (i + 1) = (ps.map (·.2)).take i ++ [pr.2] := by rw [List.take_add_one, hb]; rfl
      have pdx3 := pdx.off (Off.but (M := M1 p) bt3 rfl)
      have hasl : as.length = i := by rw [hd3.len]; exact hdl
      cases pdx3 with
      | @tup ax axs axd hax hr2 =>
      cases hr2 with
      | cons c1 c2 =>
      cases c1 with
      | str n =>
      cases c2 with
      | cons c3 c4 =>
      cases c3 with
      | str n2 =>
      cases c4 with
      | nil =>
      refine ⟨ax, _, rfl, hax.sq, rfl, _, _, rfl, _, _, rfl, rfl, ?_⟩
      refine ⟨_, rfl, rfl, _, rfl, ?_⟩
      rw [sort_int]
      cases hb2 : pr.2 with
      | true =>
        rw [hb2] at etk
        have cp : CPow 2 31 := ⟨by decide, by decide, by decide⟩
        refine iteT ⟨_, rfl, .inl ⟨rfl, _, SqL.of hA3⟩, _, rfl, _, _, rfl, rfl, cp, _, _, rfl, rfl, (by show 6 ≤ sizeLine; decide), fun l nl => ?_⟩
        have hlp : l ≠ p := S3.nep nl
        have s4 : Same H3 (upd H3 l (.lst [V.int 0, .int 1, .int 2, .int 5, .int (-1), .int (2 ^ (31 : Int).toNat - 1)])) := same_new5 nl
        refine ⟨_, rfl, p, q, 6, rfl, S3.same s4, by decide, by decide, fun u H5 u0 u1 b5 S5 => ?_⟩
        have hl5 := b5 _ _ hlp upd_same
        obtain ⟨m, em, hm⟩ := words6 u0 u1
        have b35 : But p H3 H5 := fun b o n e => b5 b o n (s4 b o e)
        have hA5 := b35 _ _ hAp hA3
        have o5 : Off (M2' p A) H3 (upd H5 A (.lst (as ++ [.int m]))) := (Off.but b35 (.inl rfl)).trans (Off.upd (.inr rfl))
        refine ⟨l, _, _, _, rfl, rfl, SqL.of hl5, em, A, as, _, rfl, rfl, hA5, small1000 (by omega), ?_⟩
        refine ⟨_, _, as ++ [.int m], ds ++ [.int m], rfl, by omega, by rw [List.length_append]; show ds.length + 1 = i + 1; omega, ?_, ?_, upd_same, DtAll.app (hd3.off o5) (.cons (.int m) .nil), hd4.off o5, (bt3.trans b35).out nA0, S5.upd hAp hAq⟩
        · rw [etk]; exact argsAll_snoc _ _ _ _ _ hargs hm
        · rw [upd_ne hBA]; exact b35 _ _ hBp hB3
      | false =>
        rw [hb2] at etk
        refine iteF ⟨_, rfl, .inl ⟨rfl, _, SqL.of hA3⟩, _, rfl, _, rfl, B, _, rfl, .inl (SqL.of hB3), p, q, _, rfl, S3, by omega, by omega, fun u H5 u0 u1 b5 S5 => ?_⟩
        have hA5 := b5 _ _ hAp hA3
        have o5 : Off (M2' p A) H3 (upd H5 A (.lst (as ++ [.int u]))) := (Off.but b5 (.inl rfl)).trans (Off.upd (.inr rfl))
        refine ⟨A, as, _, rfl, rfl, hA5, small1000 (by omega), ?_⟩
        refine ⟨_, _, as ++ [.int u], ds ++ [.int u], rfl, by omega, by rw [List.length_append]; show ds.length + 1 = i + 1; omega, ?_, ?_, upd_same, DtAll.app (hd3.off o5) (.cons (.int u) .nil), hd4.off o5, (bt3.trans b5).out nA0, S5.upd hAp hAq⟩
        · rw [etk]; exact argsAll_snoc _ _ _ _ _ hargs (numIn_of u0 (by omega))
        · rw [upd_ne hBA]; exact b5 _ _ hBp hB3
    · rintro σ H3 ⟨y6, y7, as, ds, rfl, hi, hdl, hargs, hB3, hA3, hd3, hd4, bt3, S3⟩
      rw [epl, List.take_of_length_le (by rw [List.length_map]; omega)] at hargs
      -- block
      refine ⟨_, rfl, _, rfl, p, q, 4, rfl, S3, by decide, by decide, fun v H4 v0 v1 b4 S4 => ⟨rfl, .inr ⟨_, rfl, _, _, rfl, rfl, .inl ⟨by decide, by decide⟩, _, _, rfl, rfl, ?_⟩⟩⟩
      refine ⟨p, q, _, rfl, S4, by split <;> omega, by split <;> omega, fun w1 H5 w0 w1' b5 S5 => ⟨_, _, rfl, rfl, ?_⟩⟩
      have hw8 : w1 < 8 := by
        revert w1'
        split <;> omega
      -- the tuple
      refine ⟨_, rfl, (by show 2 ≤ sizeLine; decide), fun l nl => ?_⟩
      have hlp : l ≠ p := S5.nep nl
      have s6 : Same H5 (upd H5 l (.lst [.int 3, .int 4])) := same_new5 nl
      refine ⟨_, rfl, p, q, 2, rfl, S5.same s6, by decide, by decide, fun u H6 u0 u1 b6 S6 => ?_⟩
      obtain ⟨m, em, hm⟩ := pick2i (x := 3) (y := 4) u0 u1
      have hl6 := b6 _ _ hlp upd_same
      refine ⟨l, _, _, _, rfl, rfl, SqL.of hl6, em, p, q, m, rfl, S6, by omega, by omega, fun g H7 g0 g1 b7 S7 => ⟨_, _, rfl, rfl, ?_⟩⟩
      have b37 : But p H3 H7 := ((b4.trans b5).same s6).trans (b6.trans b7)
      have hA7 := b37 _ _ hAp hA3
      have hB7 := b37 _ _ hBp hB3
      refine ⟨_, rfl, _, rfl, A, as, rfl, .inl ⟨SqL.of hA7, fun t1 nt1 => ?_⟩⟩
      have s1 : Same H7 (upd H7 t1 (.tup as)) := same_new5 nt1
      refine ⟨_, rfl, B, us, rfl, .inl ⟨SqL.of (s1 _ _ hB7), fun t2 nt2 => ?_⟩⟩
      have s2 : Same _ (upd (upd H7 t1 (.tup as)) t2 (.tup us)) := same_new5 nt2
      refine ⟨(by show 4 ≤ sizeLine; decide), fun t3 nt3 => ?_⟩
      have s3 : Same _ (upd (upd (upd H7 t1 (.tup as)) t2 (.tup us)) t3 (.tup [.int (1 + g), .int (1 + w1), .ref t1, .ref t2])) := same_new5 nt3
      have sT := (s1.trans s2).trans s3
      have h1 := (s2.trans s3) _ _ upd_same
      have h2 := s3 _ _ upd_same
      have wk : ∀ b, M1 p b → M2' p A b ∨ H7 b = none := fun b m => .inl (.inl m)
      have d3 := ((hd3.off (Off.but b37 (.inl rfl))).more wk).off (Off.of sT)
      have d4 := ((hd4.off (Off.but b37 (.inl rfl))).more wk).off (Off.of sT)
      refine k _ _ (.tuple [.int (1 + g), .int (1 + w1), .tuple ds, .tuple bs]) ?_ ((bt3.trans b37).same sT) (S7.same sT) (.laid ((S7.same (s1.trans s2)).nep nt3) upd_same (.cons (.int _) (.cons (.int _) (.cons (.laid (S7.nep nt1) h1 d3) (.cons (.laid ((S7.same s1).nep nt2) h2 d4) .nil)))))
      show (numIn 1 4 (.int (1 + g)) && numIn 1 8 (.int (1 + w1)) && decide (bs.length ≤ 4) && bs.all bufD && argsAll (bs.length : Int) (ps.map (·.2)) ds) = true
      rw [numIn_of (by omega) (by omega), numIn_of (by omega) (by omega), decide_eq_true (by omega), hbs, ← hbl, hargs]
      rfl

/-! ### something odd -/
/-- a value of some data, the stream where it was -/
def sp_law_odd (K : PySem.W.Frag) : Sp := fun vs H Q _ => ∃ p q : Addr, vs = [.ref p] ∧ Strm q H p ∧ ∀ (r : V) H' (d : PyData), But p H H' → Strm q H' p → Dt (M1 p) K H' r d → Q r H'
theorem flat1 {α : Type} (n : Nat) (x : α) : (List.replicate n [x]).flatten = List.replicate n x := by
  induction n with
  | zero => rfl
  | succ n ih => rw [List.replicate_succ, List.flatten_cons, ih]; rfl
theorem DtAll.repF {M : Addr → Prop} {K : PySem.W.Frag} {H : Hp} {v : V} {d : PyData} (h : Dt M K H v d) (n : Nat) : DtAll M K H (List.replicate n [v]).flatten (List.replicate n d) := by
  rw [flat1]
  exact L2.DtAll.rep h n
theorem But.off {p : Addr} {H H' : Hp} (h : But p H H') : Off (M1 p) H H' := fun b o n e => h b o n e
theorem atI_get? {vs : List V} {u : Int} (h0 : 0 ≤ u) (h1 : u < (vs.length : Int)) : ∃ (i : Nat) (v : V), atI vs u = some v ∧ vs[i]? = some v := by
  obtain ⟨n, rfl⟩ : ∃ n : Nat, u = (n : Int) := ⟨u.toNat, by omega⟩
  have hn : n < vs.length := by omega
  exact ⟨n, vs[n], atI_nat (List.getElem?_eq_getElem hn), List.getElem?_eq_getElem hn⟩
theorem ok_law_odd (T : Tx w K mg) : FnOk P w K mg base CX0 2 T.a_law_odd T.d_law_odd ["stream"] (sp_law_odd K) := by
  refine T.F_law_odd.ok sc_law_odd (fun vs H Q E h => ?_) (fun cdv A outer s H vs Q E hr h => ?_)
  · obtain ⟨p, q, rfl, _⟩ := h
    rfl
  · obtain ⟨p, q, rfl, hS, k⟩ := h
    refine ⟨_, (pss_cons (ps_set (i := 1) sc_law_odd.nd rfl (.inl rfl) (pe_lst (pa_cons pe_non (pa_cons pe_bl (pa_cons pe_bl (pa_cons pe_int (pa_cons pe_int (pa_cons pe_int (pa_cons pe_int (pa_cons pe_int (pa_cons pe_int (pa_cons (pe_un un_neg pe_int) (pa_cons (pe_op op_pow pe_int pe_int) (pa_cons (pe_op op_sub (pe_op op_pow pe_int pe_int) pe_int) (pa_cons (pe_op op_sub (pe_un un_neg (pe_op op_pow pe_int pe_int)) pe_int) (pa_cons (pe_tup pa_nil) (pa_cons (pe_lst pa_nil) (pa_cons pe_str (pa_cons (pe_tup (pa_cons pe_bl pa_nil)) (pa_cons (pe_tup (pa_cons pe_non pa_nil)) pa_nil))))))))))))))))))))
      (pss_cons (ps_set (i := 1) sc_law_odd.nd rfl (.inl rfl) (pe_op op_cat (pv 1) (pe_lst (pa_cons (pe_op op_repT (pe_tup (pa_cons pe_int pa_nil)) (pe_op op_add pe_int (pe_call (ok_law_draw T) (hr.mono (by decide)) (by rfl) T.g_law_draw T.F_law_draw.kp T.b_law_draw .nil pass0 (pa_cons (pv 0) (pa_cons pe_int pa_nil))))) (pa_cons (pe_op op_repT (pe_tup (pa_cons (pe_tup (pa_cons pe_int (pa_cons pe_int pa_nil))) pa_nil)) (pe_op op_add pe_int (pe_call (ok_law_draw T) (hr.mono (by decide)) (by rfl) T.g_law_draw T.F_law_draw.kp T.b_law_draw .nil pass0 (pa_cons (pv 0) (pa_cons pe_int pa_nil))))) (pa_cons (pe_tup (pa_cons (pe_tup (pa_cons (pe_op op_pow pe_int pe_int) pa_nil)) pa_nil)) (pa_cons (pe_tup (pa_cons (pe_tup (pa_cons pe_bl pa_nil)) pa_nil)) (pa_cons (pe_tup (pa_cons (pe_lst (pa_cons pe_int pa_nil)) pa_nil)) pa_nil))))))))
      (pss_one (ps_ret (pe_ix ix_list (pv 1) (pe_call (ok_law_draw T) (hr.mono (by decide)) (by rfl) T.g_law_draw T.F_law_draw.kp T.b_law_draw .nil pass0 (pa_cons (pv 0) (pa_cons (pe_callB call_len_seq (by rfl) T.z_len (by decide +kernel) (pa_cons (pv 1) pa_nil)) pa_nil))) (fun _ _ => rfl)))))), ?_⟩
    have c31 : CPow 2 31 := ⟨by decide, by decide, by decide⟩
    refine ⟨_, rfl, _, _, rfl, rfl, c31, _, _, rfl, rfl, c31, _, _, rfl, rfl, _, _, rfl, rfl, c31, _, rfl, _, _, rfl, rfl, Nat.zero_le _, fun t1 n1 => ⟨Nat.zero_le _, fun l1 n2 => ⟨(by show 1 ≤ sizeLine; decide), fun t2 n3 => ⟨(by show 1 ≤ sizeLine; decide), fun t3 n4 => ⟨(by show 18 ≤ sizeLine; decide), fun R n5 => ?_⟩⟩⟩⟩⟩
    have a1 := same_new5 (o := .tup []) n1
    have a2 := same_new5 (o := .lst []) n2
    have a3 := same_new5 (o := .tup [.bl true]) n3
    have a4 := same_new5 (o := .tup [.non]) n4
    obtain ⟨xs, exs⟩ : ∃ xs : List V, xs = [V.non, .bl true, .bl false, .int 0, .int 1, .int 4, .int 5, .int 8, .int 9, .int (-1), .int (2 ^ (31 : Int).toNat), .int (2 ^ (31 : Int).toNat - 1), .int (-(2 ^ (31 : Int).toNat) - 1), .ref t1, .ref l1, .str "a", .ref t2, .ref t3] := ⟨_, rfl⟩
    rw [← exs]
    have a5 := same_new5 (o := .lst xs) n5
    have p1 := hS.nep n1
    have S1 := hS.same a1
    have p2 := S1.nep n2
    have S2 := S1.same a2
    have p3 := S2.nep n3
    have S3 := S2.same a3
    have p4 := S3.nep n4
    have S4 := S3.same a4
    have p5 := S4.nep n5
    have S5 := S4.same a5
    have aa := (((a1.trans a2).trans a3).trans a4).trans a5
    have mk : ∀ HH : Hp, HH t1 = some (.tup []) → HH l1 = some (.lst []) → HH t2 = some (.tup [.bl true]) → HH t3 = some (.tup [.non]) → ∃ ds, DtAll (M1 p) K HH [V.non, .bl true, .bl false, .int 0, .int 1, .int 4, .int 5, .int 8, .int 9, .int (-1), .int (2 ^ (31 : Int).toNat), .int (2 ^ (31 : Int).toNat - 1), .int (-(2 ^ (31 : Int).toNat) - 1), .ref t1, .ref l1, .str "a", .ref t2, .ref t3] ds := fun HH h1 h2 h3 h4 =>
      ⟨_, .cons .non (.cons (.bl _) (.cons (.bl _) (.cons (.int _) (.cons (.int _) (.cons (.int _) (.cons (.int _) (.cons (.int _) (.cons (.int _) (.cons (.int _) (.cons (.int _) (.cons (.int _) (.cons (.int _) (.cons (.laid p1 h1 .nil) (.cons (.laidL p2 h2 .nil) (.cons (.str _) (.cons (.laid p3 h3 (.cons (.bl _) .nil)) (.cons (.laid p4 h4 (.cons .non .nil)) .nil)))))))))))))))))⟩
    obtain ⟨ds, hds⟩ := mk _ ((((a2.trans a3).trans a4).trans a5) _ _ upd_same) (((a3.trans a4).trans a5) _ _ upd_same) ((a4.trans a5) _ _ upd_same) (a5 _ _ upd_same)
    rw [← exs] at hds
    clear mk
    have bt : But p H _ := (But.refl).same aa
    have hR5 : (upd (upd (upd (upd (upd H t1 (.tup [])) l1 (.lst [])) t2 (.tup [.bl true])) t3 (.tup [.non])) R (.lst xs)) R = some (.lst xs) := upd_same
    have hxl : xs.length = 18 := by rw [exs]; rfl
    clear exs
    revert bt hds S5 hR5 aa
    generalize (upd (upd (upd (upd (upd H t1 (.tup [])) l1 (.lst [])) t2 (.tup [.bl true])) t3 (.tup [.non])) R (.lst xs)) = H0
    intro S0 aa hds bt hR0
    -- the second list
    refine ⟨_, rfl, (by show 1 ≤ sizeLine; decide), fun u1 m1 => ⟨_, rfl, p, q, 4, rfl, S0.same (same_new5 m1), by decide, by decide, fun c H1 c0 c1 b1 S1 => ⟨_, _, rfl, rfl, ?_⟩⟩⟩
    have hu1p := S0.nep m1
    have hu1 := b1 _ _ hu1p upd_same
    refine ⟨u1, _, _, rfl, rfl, SqT.of hu1, by simp, by omega, by omega, by decide, fun u2 m2 => ?_⟩
    have s2 := same_new5 (o := .tup (List.replicate (23 + c).toNat [V.int 0]).flatten) m2
    have hu2p := S1.nep m2
    have S2 := S1.same s2
    have b02 : But p H0 _ := fun b o n e => s2 _ _ (b1 b o n (same_new5 m1 b o e))
    -- ((1, 2),) * ..
    refine ⟨(by show 2 ≤ sizeLine; decide), fun u3 m3 => ⟨(by show 1 ≤ sizeLine; decide), fun u4 m4 => ?_⟩⟩
    have s3 := same_new5 (o := .tup [.int 1, .int 2]) m3
    have s4 := same_new5 (o := .tup [.ref u3]) m4
    have hu3p := S2.nep m3
    have hu4p := (S2.same s3).nep m4
    have S4 := (S2.same s3).same s4
    refine ⟨_, rfl, p, q, 3, rfl, S4, by decide, by decide, fun c2 H5 d0 d1 b5 S5 => ⟨_, _, rfl, rfl, ?_⟩⟩
    have hu4 := b5 _ _ hu4p upd_same
    have hu3 := b5 _ _ hu3p (s4 _ _ upd_same)
    refine ⟨u4, _, _, rfl, rfl, SqT.of hu4, by simp, by omega, by omega, (by show 1 ≤ 1000; decide), fun u5 m5 => ?_⟩
    have s5 := same_new5 (o := .tup (List.replicate (3 + c2).toNat [V.ref u3]).flatten) m5
    have hu5p := S5.nep m5
    have S6 := S5.same s5
    have b05 : But p H0 _ := (b02.same (s3.trans s4)).trans (b5.same s5)
    have hu2 : _ = _ := ((s3.trans s4) _ _ upd_same : _ = some (HO.tup (List.replicate (23 + c).toNat [V.int 0]).flatten))
    have hu2' := s5 _ _ (b5 _ _ hu2p hu2)
    have hu3' := s5 _ _ hu3
    -- the rest
    refine ⟨_, _, rfl, rfl, c31, (by show 1 ≤ sizeLine; decide), fun u6 m6 => ⟨(by show 1 ≤ sizeLine; decide), fun u7 m7 => ⟨(by show 1 ≤ sizeLine; decide), fun u8 m8 => ⟨(by show 1 ≤ sizeLine; decide), fun u9 m9 => ⟨(by show 1 ≤ sizeLine; decide), fun ua ma => ⟨(by show 1 ≤ sizeLine; decide), fun ub mb => ⟨(by show 5 ≤ sizeLine; decide), fun uc mc => ?_⟩⟩⟩⟩⟩⟩⟩
    have s6 := same_new5 (o := .tup [.int (2 ^ (31 : Int).toNat)]) m6
    have s7 := same_new5 (o := .tup [.ref u6]) m7
    have s8 := same_new5 (o := .tup [.bl true]) m8
    have s9 := same_new5 (o := .tup [.ref u8]) m9
    have sa := same_new5 (o := .lst [.int 1]) ma
    have sb := same_new5 (o := .tup [.ref ua]) mb
    have sc := same_new5 (o := .lst [.ref u2, .ref u5, .ref u7, .ref u9, .ref ub]) mc
    have q6 := S6.nep m6
    have T6 := S6.same s6
    have q7 := T6.nep m7
    have T7 := T6.same s7
    have q8 := T7.nep m8
    have T8 := T7.same s8
    have q9 := T8.nep m9
    have T9 := T8.same s9
    have qa := T9.nep ma
    have Ta := T9.same sa
    have qb := Ta.nep mb
    have Tb := Ta.same sb
    have qc := Tb.nep mc
    have Tc := Tb.same sc
    have s6c := (((((s7.trans s8).trans s9).trans sa).trans sb).trans sc)
    have sall := s6.trans s6c
    have bc : But p H0 _ := b05.same sall
    have hRp : R ≠ p := p5
    have hRc := bc _ _ hRp hR0
    have d1 : Dt (M1 p) K _ (.ref u2) (.tuple (List.replicate (23 + c).toNat (.int 0))) := .laid hu2p (sall _ _ hu2') (DtAll.repF (.int 0) _)
    have dd : Dt (M1 p) K _ (.ref u3) (.tuple [.int 1, .int 2]) := .laid hu3p (sall _ _ hu3') (.cons (.int 1) (.cons (.int 2) .nil))
    have d2 : Dt (M1 p) K _ (.ref u5) (.tuple (List.replicate (3 + c2).toNat (.tuple [.int 1, .int 2]))) := .laid hu5p (sall _ _ upd_same) (DtAll.repF dd _)
    have d6 : Dt (M1 p) K _ (.ref u7) (.tuple [.tuple [.int (2 ^ (31 : Int).toNat)]]) := .laid q7 (((((s8.trans s9).trans sa).trans sb).trans sc) _ _ upd_same) (.cons (.laid q6 (s6c _ _ upd_same) (.cons (.int _) .nil)) .nil)
    have d8 : Dt (M1 p) K _ (.ref u9) (.tuple [.tuple [.bool true]]) := .laid q9 (((sa.trans sb).trans sc) _ _ upd_same) (.cons (.laid q8 ((((s9.trans sa).trans sb).trans sc) _ _ upd_same) (.cons (.bl true) .nil)) .nil)
    have da : Dt (M1 p) K _ (.ref ub) (.tuple [.list [.int 1]]) := .laid qb (sc _ _ upd_same) (.cons (.laidL qa ((sb.trans sc) _ _ upd_same) (.cons (.int 1) .nil)) .nil)
    refine ⟨R, uc, xs, _, rfl, rfl, hRc, upd_same, by rw [hxl]; show 18 + 5 ≤ sizeLine; decide, fun G mG => ?_⟩
    have sG := same_new5 (o := .lst (xs ++ [.ref u2, .ref u5, .ref u7, .ref u9, .ref ub])) mG
    have dG : DtAll (M1 p) K _ (xs ++ [.ref u2, .ref u5, .ref u7, .ref u9, .ref ub]) _ := (DtAll.app (hds.off bc.off) (.cons d1 (.cons d2 (.cons d6 (.cons d8 (.cons da .nil)))))).off (Off.of sG)
    have SG := Tc.same sG
    have hGp := Tc.nep mG
    have hGl : (xs ++ [V.ref u2, .ref u5, .ref u7, .ref u9, .ref ub]).length = 23 := by rw [List.length_append, hxl]; rfl
    refine ⟨_, rfl, _, rfl, _, rfl, G, _, rfl, .inl (SqL.of upd_same), p, q, _, rfl, SG, by rw [hGl]; decide, by rw [hGl]; decide, fun v HZ v0 v1 bZ SZ => ?_⟩
    have hGZ := bZ _ _ hGp upd_same
    obtain ⟨j, x, ex, gx⟩ := atI_get? v0 v1
    have dZ := dG.off bZ.off
    obtain ⟨d, ed, pd⟩ := dZ.get gx
    exact ⟨G, _, _, _, rfl, rfl, SqL.of hGZ, ex, k _ _ d ((bt.trans (bc.same sG)).trans bZ) SZ pd⟩

/-- a value that is a tuple of four, the last two of them tuples -/
def sp_law_changed (K : PySem.W.Frag) : Sp := fun vs H Q _ => ∃ (p q : Addr) (v : V) (g b : PyData) (as bs : List PyData), vs = [.ref p, v] ∧ Strm q H p ∧ Dt (M1 p) K H v (.tuple [g, b, .tuple as, .tuple bs]) ∧ as.length ≤ 100 ∧ bs.length ≤ 100 ∧
  ∀ (r : V) H' (d : PyData), But p H H' → Strm q H' p → Dt (M1 p) K H' r d → Q r H'
theorem sq_new {K : PySem.W.Frag} {H : Hp} {t : Addr} {xs : List V} : SqT K (upd H t (.tup xs)) t xs := SqT.of upd_same
theorem cat_dt {M : Addr → Prop} {K : PySem.W.Frag} {H : Hp} {va vb : V} {ds es : List PyData} {Q : VK} (da : Dt M K H va (.tuple ds)) (db : Dt M K H vb (.tuple es)) (hl : ds.length + es.length ≤ 1000) (hM : ∀ r, H r = none → ¬ M r)
    (q : ∀ r H', Same H H' → Dt M K H' r (.tuple (ds ++ es)) → Q r H') : rCatA K va vb H Q := by
  have da0 := da
  have db0 := db
  cases da with
  | @tup a xs _ ha ra =>
  cases db with
  | @tup b ys _ hb rb =>
  have e1 := ra.len
  have e2 := rb.len
  refine ⟨a, b, xs, ys, rfl, rfl, ha.sq, hb.sq, Nat.le_of_lt (small1000 (by omega)), fun z => ?_, fun _ z => ?_, fun _ _ r nr => ?_⟩
  · have : ds = [] := List.eq_nil_of_length_eq_zero (by rw [← e1, z]; rfl)
    subst this
    exact q _ _ (.refl H) db0
  · have : es = [] := List.eq_nil_of_length_eq_zero (by rw [← e2, z]; rfl)
    subst this
    rw [List.append_nil] at q
    exact q _ _ (.refl H) da0
  · have sr := same_new5 (o := .tup (xs ++ ys)) nr
    exact q _ _ sr (.laid (hM r nr) upd_same (DtAll.app (ra.off (Off.of sr)) (rb.off (Off.of sr))))
theorem rep01_dt {M : Addr → Prop} {K : PySem.W.Frag} {H : Hp} {v : V} {ds : List PyData} {k : Int} {Q : VK} (d : Dt M K H v (.tuple ds)) (hne : ds ≠ []) (hk : k = 0 ∨ k = 1) (hM : ∀ r, H r = none → ¬ M r)
    (q : ∀ r H' es, Same H H' → Dt M K H' r (.tuple es) → es.length ≤ ds.length → Q r H') : rRep01 K v (.int k) H Q := by
  have d0 := d
  cases d with
  | @tup a xs _ ha ra =>
  refine ⟨a, k, xs, rfl, rfl, ha.sq, fun z => hne (List.eq_nil_of_length_eq_zero (by rw [← ra.len, z]; rfl)), ?_⟩
  rcases hk with rfl | rfl
  · exact .inr ⟨rfl, fun r nr => q _ _ [] (same_new5 nr) (.laid (hM r nr) upd_same .nil) (Nat.zero_le _)⟩
  · exact .inl ⟨rfl, q _ _ _ (.refl H) d0 (Nat.le_refl _)⟩
theorem slice_dt {M : Addr → Prop} {K : PySem.W.Frag} {H : Hp} {v : V} {ds : List PyData} {lo hi : Option Int} {Q : VK} (d : Dt M K H v (.tuple ds)) (hw : ¬ (HT.sIx ds.length 0 lo = 0 ∧ HT.sIx ds.length ds.length hi = ds.length)) (hM : ∀ r, H r = none → ¬ M r)
    (q : ∀ r H' es, Same H H' → Dt M K H' r (.tuple es) → es.length ≤ ds.length → Q r H') : rSlT K v lo hi H Q := by
  cases d with
  | @tup a xs _ ha ra =>
  have e1 := ra.len
  refine ⟨a, xs, rfl, ha.sq, by rw [e1]; exact hw, fun r nr => ?_⟩
  have sr := same_new5 (o := .tup (cutV xs lo hi)) nr
  have cut : DtAll M K (L2.upd H r (.tup (cutV xs lo hi))) (cutV xs lo hi) _ := ((ra.off (Off.of sr)).drop _).take _
  refine q _ _ _ sr (.laid (hM r nr) upd_same cut) ?_
  rw [← cut.len, ← e1]
  exact cutV_length _ _ _
theorem Strm.out {q : Addr} {H : Hp} {p : Addr} (s : Strm q H p) : ∀ r, H r = none → ¬ M1 p r := fun r h => s.nep h
theorem cut_lo {n m : Nat} (h : m < n) : ¬ (HT.sIx n 0 none = 0 ∧ HT.sIx n n (some (m : Int)) = n) := by
  rintro ⟨_, z⟩
  rw [HT.sIx_nat] at z
  omega
theorem cut_hi {n m : Nat} (h : m < n) : ¬ (HT.sIx n 0 (some ((m : Int) + 1)) = 0 ∧ HT.sIx n n none = n) := by
  rintro ⟨z, _⟩
  rw [show ((m : Int) + 1) = ((m + 1 : Nat) : Int) by omega, HT.sIx_nat] at z
  omega
theorem ok_law_changed (T : Tx w K mg) : FnOk P w K mg base CX0 3 T.a_law_changed T.d_law_changed ["stream", "value"] (sp_law_changed K) := by
  refine T.F_law_changed.ok sc_law_changed (fun vs H Q E h => ?_) (fun cdv A outer s H vs Q E hr h => ?_)
  · obtain ⟨p, q, v, g, b, as, bs, rfl, _⟩ := h
    rfl
  · obtain ⟨p, q, v, g, b, as, bs, rfl, hS, hv, ha, hb, k⟩ := h
    refine ⟨_, (pss_cons (ps_set (i := 2) sc_law_changed.nd rfl (.inl rfl) (pe_call (ok_law_draw T) (hr.mono (by decide)) (by rfl) T.g_law_draw T.F_law_draw.kp T.b_law_draw .nil pass0 (pa_cons (pv 0) (pa_cons pe_int pa_nil))))
      (pss_cons (ps_set (i := 3) sc_law_changed.nd rfl (.inl rfl) (pe_call (ok_law_draw T) (hr.mono (by decide)) (by rfl) T.g_law_draw T.F_law_draw.kp T.b_law_draw .nil pass0 (pa_cons (pv 0) (pa_cons pe_int pa_nil))))
      (pss_cons (ps_if (pt_cmpR op_eq (pv 3) pe_int (nomark _)) (pss_one (ps_ret (pe_ix ix_list (pe_lst (pa_cons (pe_callTy call_list_of (by rfl) T.z_list (by decide +kernel) (pa_cons (pv 1) pa_nil)) (pa_cons (pe_slice sl_tup (pv 1) po_none (po_some (pe_un un_neg pe_int))) (pa_cons (pe_op op_catA (pv 1) (pe_tup (pa_cons pe_int pa_nil))) (pa_cons pe_non (pa_cons (pe_tup pa_nil) pa_nil)))))) (pe_call (ok_law_draw T) (hr.mono (by decide)) (by rfl) T.g_law_draw T.F_law_draw.kp T.b_law_draw .nil pass0 (pa_cons (pv 0) (pa_cons pe_int pa_nil))) (fun _ _ => rfl)))) pss_nil)
      (pss_cons (ps_set (i := 4) sc_law_changed.nd rfl (.inl rfl) (pe_ix ix_tup (pv 1) (pv 2) (fun _ _ => rfl)))
      (C8.pss_cut (ps_if (PW.pt (pw_or (pt_cmpR op_lt (pv 3) pe_int (nomark _)) (pw_or1 (pt_cmpR op_lt (pv 2) pe_int (nomark _))))) (pss_one (ps_set (i := 4) sc_law_changed.nd rfl (.inl rfl) (pe_call (ok_law_odd T) (hr.mono (by decide)) (by rfl) T.g_law_odd T.F_law_odd.kp T.b_law_odd .nil pass0 (pa_cons (pv 0) pa_nil)))) (pss_one (ps_if (PW.pt (pw_or (pt_cmpR op_eq (pv 3) pe_int (nomark _)) (pw_or1 (pt_not (pt_truth (pv 4) (by intro _; rfl)))))) (pss_one (ps_set (i := 4) sc_law_changed.nd rfl (.inl rfl) (pe_op op_catA (pv 4) (pe_tup (pa_cons (pe_call (ok_law_odd T) (hr.mono (by decide)) (by rfl) T.g_law_odd T.F_law_odd.kp T.b_law_odd .nil pass0 (pa_cons (pv 0) pa_nil)) pa_nil))))) (pss_cons (ps_set (i := 5) sc_law_changed.nd rfl (.inl rfl) (pe_call (ok_law_draw T) (hr.mono (by decide)) (by rfl) T.g_law_draw T.F_law_draw.kp T.b_law_draw .nil pass0 (pa_cons (pv 0) (pa_cons (pe_callB call_len_seq (by rfl) T.z_len (by decide +kernel) (pa_cons (pv 4) pa_nil)) pa_nil))))
      (pss_one (ps_set (i := 4) sc_law_changed.nd rfl (.inl rfl) (pe_op op_catA (pe_op op_catA (pe_slice sl_tup (pv 4) po_none (po_some (pv 5))) (pe_op op_rep01 (pe_tup (pa_cons (pe_call (ok_law_odd T) (hr.mono (by decide)) (by rfl) T.g_law_odd T.F_law_odd.kp T.b_law_odd .nil pass0 (pa_cons (pv 0) pa_nil)) pa_nil)) (pe_call (ok_law_draw T) (hr.mono (by decide)) (by rfl) T.g_law_draw T.F_law_draw.kp T.b_law_draw .nil pass0 (pa_cons (pv 0) (pa_cons pe_int pa_nil))))) (pe_slice sl_tup (pv 4) (po_some (pe_op op_add (pv 5) pe_int)) po_none))))))))
      (pss_one (ps_ret (pe_op op_catA (pe_op op_catA (pe_slice sl_tup (pv 1) po_none (po_some (pv 2))) (pe_tup (pa_cons (pv 4) pa_nil))) (pe_slice sl_tup (pv 1) (po_some (pe_op op_add (pv 2) pe_int)) po_none))))))))), ?_⟩
    refine ⟨_, rfl, p, q, 4, rfl, hS, by decide, by decide, fun at0 H1 a0 a1 b1 S1 => ?_⟩
    refine ⟨_, rfl, p, q, 5, rfl, S1, by decide, by decide, fun pick H2 k0 k1 b2 S2 => ?_⟩
    have bt2 := b1.trans b2
    have hv2 := hv.off bt2.off
    cases hv with
    | @tup a vs _ hav rav =>
    cases rav with
    | @cons vg _ _ _ dg rav =>
    cases rav with
    | @cons vb _ _ _ db rav =>
    cases rav with
    | @cons va _ _ _ da rav =>
    cases rav with
    | @cons vu _ _ _ du rav =>
    cases rav with
    | nil =>
    have hav2 := hav.off bt2.off
    have all2 : DtAll (M1 p) K H2 [vg, vb, va, vu] [g, b, .tuple as, .tuple bs] := (DtAll.cons dg (.cons db (.cons da (.cons du .nil)))).off bt2.off
    refine ⟨_, rfl, rfl, _, rfl, ite2 (fun z => ?_) (fun z => ?_)⟩
    · -- [list(value), value[:-1], value + (0,), None, ()][..]
      refine ⟨_, rfl, a, _, rfl, .inr hav2.sq, fun l1 n1 => ?_⟩
      have s1 := same_new5 (o := .lst [vg, vb, va, vu]) n1
      have hav3 := hav2.off (Off.of s1)
      refine ⟨_, rfl, _, rfl, _, rfl, a, _, rfl, hav3.sq, (by show ¬ (0 = 0 ∧ 3 = 4); decide), fun t2 n2 => ?_⟩
      have s2 := same_new5 (o := .tup (cutV [vg, vb, va, vu] none (some (-1)))) n2
      have hav4 := hav3.off (Off.of s2)
      refine ⟨_, rfl, (by show 1 ≤ sizeLine; decide), fun t3 n3 => ?_⟩
      have s3 := same_new5 (o := .tup [.int 0]) n3
      have hav5 := hav4.off (Off.of s3)
      refine ⟨a, t3, _, _, rfl, rfl, hav5.sq, sq_new, (by show 4 + 1 ≤ sizeLine; decide), fun (z : [vg, vb, va, vu] = []) => (nomatch z), fun _ (z : [V.int 0] = []) => (nomatch z), fun _ _ t4 n4 => ?_⟩
      have s4 := same_new5 (o := .tup ([vg, vb, va, vu] ++ [.int 0])) n4
      refine ⟨Nat.zero_le _, fun t5 n5 => ⟨(by show 5 ≤ sizeLine; decide), fun L n6 => ?_⟩⟩
      have s5 := same_new5 (o := .tup []) n5
      have s6 := same_new5 (o := .lst [.ref l1, .ref t2, .ref t4, .non, .ref t5]) n6
      have w1 := S2.nep n1
      have X1 := S2.same s1
      have w2 := X1.nep n2
      have X2 := X1.same s2
      have X3 := X2.same s3
      have w4 := X3.nep n4
      have X4 := X3.same s4
      have w5 := X4.nep n5
      have X5 := X4.same s5
      have w6 := X5.nep n6
      have X6 := X5.same s6
      have e6 := s6
      have e56 := s5.trans s6
      have e46 := s4.trans e56
      have e36 := s3.trans e46
      have e26 := s2.trans e36
      have e16 := s1.trans e26
      have all6 := all2.off (Off.of e16)
      have dl : ∃ ds, DtAll (M1 p) K _ [V.ref l1, .ref t2, .ref t4, .non, .ref t5] ds := ⟨_, .cons (.laidL w1 (e26 _ _ upd_same) all6) (.cons (.laid w2 (e36 _ _ upd_same) ((all6.drop _).take _)) (.cons (.laid w4 (e56 _ _ upd_same) (DtAll.app all6 (.cons (.int 0) .nil))) (.cons .non (.cons (.laid w5 (e6 _ _ upd_same) .nil) .nil))))⟩
      obtain ⟨ds, dl⟩ := dl
      refine ⟨_, rfl, p, q, 5, rfl, X6, by decide, by decide, fun u H7 u0 u1 b7 S7 => ?_⟩
      have hL := b7 _ _ w6 upd_same
      obtain ⟨j, x, ex, gx⟩ := atI_get? (vs := [V.ref l1, .ref t2, .ref t4, .non, .ref t5]) u0 u1
      obtain ⟨d, ed, pd⟩ := (dl.off b7.off).get gx
      exact ⟨L, _, _, _, rfl, rfl, SqL.of hL, ex, k _ _ d ((bt2.same e16).trans b7) S7 pd⟩
    · have four : ∃ (n : Nat) (x : V) (dx : PyData), at0 = (n : Int) ∧ n < 4 ∧ [vg, vb, va, vu][n]? = some x ∧ [g, b, .tuple as, .tuple bs][n]? = some dx := by
        obtain ⟨n, rfl⟩ : ∃ n : Nat, at0 = (n : Int) := ⟨at0.toNat, by omega⟩
        have hn : n < 4 := by omega
        exact ⟨n, _, _, rfl, hn, List.getElem?_eq_getElem (by exact hn), List.getElem?_eq_getElem (by exact hn)⟩
      obtain ⟨n, x, dx, rfl, hn, gx, gdx⟩ := four
      have px : Dt (M1 p) K H2 x dx := by
        obtain ⟨d, ed, pd⟩ := all2.get gx
        rw [gdx] at ed
        cases ed
        exact pd
      refine ⟨_, rfl, _, rfl, a, _, _, _, rfl, rfl, hav2.sq, atI_nat gx, ?_⟩
      -- the part
      refine ⟨fun σ' H' => ∃ (y : V) (dy : PyData) (y5 : Option V), σ' = [some (.ref p), some (.ref a), some (.int (n : Int)), some (.int pick), some y, y5] ∧ But p H2 H' ∧ Strm q H' p ∧ Dt (M1 p) K H' y dy, ?_, ?_⟩
      · refine ⟨_, rfl, _, _, rfl, rfl, _, rfl, ?_⟩
        have oddly : ∀ (P : Prop), (∀ (y : V) (dy : PyData) (H3 : Hp), But p H2 H3 → Strm q H3 p → Dt (M1 p) K H3 y dy → P) → P = P := fun _ _ => rfl
        refine ite2 (fun z1 => ?_) (fun z1 => ?_)
        · exact ⟨_, rfl, p, q, rfl, S2, fun y H3 dy b3 S3 d3 => ⟨y, dy, none, rfl, b3, S3, d3⟩⟩
        · refine ⟨_, rfl, _, _, rfl, rfl, _, rfl, ite2 (fun z2 => ?_) (fun z2 => ?_)⟩
          · exact ⟨_, rfl, p, q, rfl, S2, fun y H3 dy b3 S3 d3 => ⟨y, dy, none, rfl, b3, S3, d3⟩⟩
          · have hn2 : ¬ n < 2 := fun h => z2 (decide_eq_true (by omega))
            obtain ⟨cs, hcs, rfl⟩ : ∃ cs : List PyData, cs.length ≤ 100 ∧ dx = .tuple cs := by
              match n, hn, hn2, gdx with
              | 2, _, _, h => exact ⟨as, ha, (Option.some.inj h).symm⟩
              | 3, _, _, h => exact ⟨bs, hb, (Option.some.inj h).symm⟩
            have px0 := px
            cases px with
            | @tup ap pvs _ hap rap =>
            have epl : pvs.length = cs.length := rap.len
            refine ⟨_, rfl, rfl, _, rfl, ite2 (fun z3 => ?_) (fun z3 => ?_)⟩
            · refine ⟨_, rfl, _, rfl, p, q, rfl, S2, fun o H3 dO b3 S3 d3 => ⟨(by show 1 ≤ sizeLine; decide), fun t nt => ?_⟩⟩
              have st := same_new5 (o := .tup [o]) nt
              have ho : Dt (M1 p) K (upd H3 t (.tup [o])) (.ref t) (.tuple [dO]) := .laid (S3.nep nt) upd_same (.cons (d3.off (Off.of st)) .nil)
              exact cat_dt ((px0.off b3.off).off (Off.of st)) ho (by show cs.length + 1 ≤ 1000; omega) (S3.same st).out fun r H' s' d' => ⟨_, _, none, rfl, (b3.same st).same s', (S3.same st).same s', d'⟩
            · refine ⟨_, rfl, _, .inr (.inl ⟨pvs, hap.sq, rfl⟩), ?_⟩
              by_cases hne : cs = []
              · have hpe : pvs.isEmpty = true := by
                  rw [hne] at epl
                  rw [List.eq_nil_of_length_eq_zero epl]; rfl
                rw [hpe]
                refine ⟨_, rfl, _, rfl, p, q, rfl, S2, fun o H3 dO b3 S3 d3 => ⟨(by show 1 ≤ sizeLine; decide), fun t nt => ?_⟩⟩
                have st := same_new5 (o := .tup [o]) nt
                have ho : Dt (M1 p) K (upd H3 t (.tup [o])) (.ref t) (.tuple [dO]) := .laid (S3.nep nt) upd_same (.cons (d3.off (Off.of st)) .nil)
                exact cat_dt ((px0.off b3.off).off (Off.of st)) ho (by show cs.length + 1 ≤ 1000; omega) (S3.same st).out fun r H' s' d' => ⟨_, _, none, rfl, (b3.same st).same s', (S3.same st).same s', d'⟩
              · have hpe : pvs.isEmpty = false := by
                  cases pvs with
                  | nil => exact absurd (List.eq_nil_of_length_eq_zero epl.symm) hne
                  | cons a b => rfl
                have hpl : 0 < cs.length := List.length_pos_iff.mpr hne
                rw [hpe]
                refine iteF ⟨_, rfl, _, rfl, ap, _, rfl, .inr hap.sq, p, q, _, rfl, S2, by omega, by omega, fun sp0 H3 u0 u1 b3 S3 => ?_⟩
                obtain ⟨m, rfl⟩ : ∃ m : Nat, sp0 = (m : Int) := ⟨sp0.toNat, by omega⟩
                have hm : m < cs.length := by omega
                have px3 := px0.off b3.off
                -- part[:spot], (odd,) * .., part[spot + 1:]
                refine ⟨_, rfl, _, rfl, _, rfl, slice_dt px3 (cut_lo hm) S3.out fun r1 H4 es1 s4 d4 l4 => ?_⟩
                have S4 := S3.same s4
                refine ⟨_, rfl, p, q, rfl, S4, fun o H5 dO b5 S5 d5 => ⟨(by show 1 ≤ sizeLine; decide), fun t2 n2 => ?_⟩⟩
                have s2 := same_new5 (o := .tup [o]) n2
                have S6 := S5.same s2
                have ho : Dt (M1 p) K (upd H5 t2 (.tup [o])) (.ref t2) (.tuple [dO]) := .laid (S5.nep n2) upd_same (.cons (d5.off (Off.of s2)) .nil)
                refine ⟨_, rfl, p, q, 2, rfl, S6, by decide, by decide, fun c H7 c0 c1 b7 S7 => ?_⟩
                have b47 : But p H4 H7 := fun b o n e => b7 b o n (s2 _ _ (b5 b o n e))
                refine rep01_dt (ho.off b7.off) (fun z => by cases z) (by omega) S7.out fun r3 H8 es3 s8 d8 l8 => ?_
                have S8 := S7.same s8
                have b48 := b47.same s8
                refine cat_dt (d4.off b48.off) d8 (by have : es3.length ≤ 1 := l8; omega) S8.out fun r4 H9 s9 d9 => ?_
                have S9 := S8.same s9
                have b39 : But p H3 H9 := fun b o n e => s9 _ _ (b48 b o n (s4 _ _ e))
                refine ⟨_, rfl, _, rfl, _, _, rfl, rfl, _, rfl, ?_⟩
                dsimp only [tNoPart]
                refine slice_dt (px3.off b39.off) (cut_hi hm) S9.out fun r5 HA es5 sA dA lA => ?_
                have SA := S9.same sA
                refine cat_dt (d9.off (Off.of sA)) dA (by have : es3.length ≤ 1 := l8; rw [List.length_append]; omega) SA.out fun r6 HB sB dB => ?_
                exact ⟨_, _, some (.int (m : Int)), rfl, ((b3.trans b39).same sA).same sB, SA.same sB, dB⟩
      · rintro σ' H3 ⟨y, dy, y5, rfl, b3, S3, dy3⟩
        have v3 := hv2.off b3.off
        refine ⟨_, rfl, _, rfl, _, rfl, slice_dt v3 (cut_lo hn) S3.out fun r1 H4 es1 s4 d4 l4 => ?_⟩
        have S4 := S3.same s4
        replace l4 : es1.length ≤ 4 := l4
        refine ⟨_, rfl, (by show 1 ≤ sizeLine; decide), fun t2 n2 => ?_⟩
        have s2 := same_new5 (o := .tup [y]) n2
        have S5 := S4.same s2
        have hy : Dt (M1 p) K (upd H4 t2 (.tup [y])) (.ref t2) (.tuple [dy]) := .laid (S4.nep n2) upd_same (.cons ((dy3.off (Off.of s4)).off (Off.of s2)) .nil)
        refine cat_dt (d4.off (Off.of s2)) hy (by show es1.length + 1 ≤ 1000; omega) S5.out fun r3 H6 s6 d6 => ?_
        have S6 := S5.same s6
        have s36 := (s4.trans s2).trans s6
        refine ⟨_, rfl, _, rfl, _, _, rfl, rfl, _, rfl, ?_⟩
        dsimp only [tNoPart]
        refine slice_dt (v3.off (Off.of s36)) (cut_hi hn) S6.out fun r5 H7 es5 s7 d7 l7 => ?_
        have S7 := S6.same s7
        replace l7 : es5.length ≤ 4 := l7
        refine cat_dt (d6.off (Off.of s7)) d7 (by rw [List.length_append]; show es1.length + 1 + es5.length ≤ 1000; omega) S7.out fun r6 H8 s8 d8 => ?_
        exact k _ _ _ (((bt2.trans b3).same (s36.trans s7)).same s8) (S7.same s8) d8

/-! ### the law -/
def sp_law (K : PySem.W.Frag) : Sp := fun vs H Q _ => ∃ (a : Addr) (ns : List Int), vs = [.ref a] ∧ SqL K H a (ns.map V.int) ∧ ns.length ≤ 63 ∧ ∀ H', Q (.bl true) H'
theorem launch_shape {bs : List Bool} {d : PyData} (h : launchD bs d = true) : ∃ g b as us, d = .tuple [g, b, .tuple as, .tuple us] ∧ as.length = bs.length ∧ us.length ≤ 4 := by
  unfold launchD at h
  split at h
  · rename_i g b as us
    cases as with
    | tuple xs =>
      refine ⟨g, b, xs, us, rfl, ?_, ?_⟩
      · rw [Bool.and_eq_true] at h
        exact argsAll_len h.2
      · rw [Bool.and_eq_true, Bool.and_eq_true, Bool.and_eq_true] at h
        exact of_decide_eq_true h.1.1.2
    | _ => rw [Bool.and_eq_true] at h; exact (Bool.false_ne_true h.2).elim
  · cases h
theorem non_shaped : SeqAt.shaped .none = true := by decide +kernel
theorem ref_shaped : SeqAt.shaped (refused "launch") = true := by decide +kernel
theorem non_eq : PyData.eqv .none .none = true := by decide +kernel
theorem ref_eq : PyData.eqv (refused "launch") (refused "launch") = true := by decide +kernel
theorem ok_law (T : Tx w K mg) : FnOk P w K mg base CX0 8 T.a_law T.d_law ["script"] (sp_law K) := by
  refine T.F_law.ok sc_law (fun vs H Q E h => ?_) (fun cdv A outer s H vs Q E hr h => ?_)
  · obtain ⟨a, ns, rfl, _⟩ := h
    rfl
  · obtain ⟨a, ns, rfl, hS, hlen, qq⟩ := h
    refine ⟨_, (pss_cons (ps_set (i := 1) sc_law.nd rfl (.inl rfl) (pe_call (ok_law_stream T) (hr.mono (by decide)) (by rfl) T.g_law_stream T.F_law_stream.kp T.b_law_stream .nil pass0 (pa_cons (pv 0) pa_nil)))
      (pss_cons (ps_asg (pe_call (ok_law_params T) (hr.mono (by decide)) (by rfl) T.g_law_params T.F_law_params.kp T.b_law_params .nil pass0 (pa_cons (pv 1) pa_nil)) (pg_tup rfl (pgs_cons (pg_name (i := 2) sc_law.nd rfl (.inl rfl)) (pgs_cons (pg_name (i := 3) sc_law.nd rfl (.inl rfl)) pgs_nil))))
      (pss_cons (ps_set (i := 4) sc_law.nd rfl (.inl rfl) (pe_tup (pa_cons (pv 2) (pa_cons (pv 3) (pa_cons (pe_tup pa_nil) pa_nil)))))
      (pss_cons (ps_set (i := 5) sc_law.nd rfl (.inl rfl) (pe_call (ok_law_draw T) (hr.mono (by decide)) (by rfl) T.g_law_draw T.F_law_draw.kp T.b_law_draw .nil pass0 (pa_cons (pv 1) (pa_cons pe_int pa_nil))))
      (C8.pss_cut (ps_if (pt_cmpR op_eq (pv 5) pe_int (nomark _)) (pss_one (ps_set (i := 4) sc_law.nd rfl (.inl rfl) (pe_tup (pa_cons (pv 2) (pa_cons (pv 3) (pa_cons pe_int (pa_cons (pe_tup (pa_cons (pe_tup (pa_cons (pe_tup pa_nil) (pa_cons (pe_tup (pa_cons pe_str pa_nil)) pa_nil))) pa_nil)) pa_nil))))))) pss_nil)
      (C8.pss_cut (ps_if (pt_cmpR op_eq (pv 5) pe_int (nomark _)) (pss_one (ps_set (i := 4) sc_law.nd rfl (.inl rfl) (pe_tup (pa_cons (pv 2) (pa_cons (pv 3) (pa_cons pe_int (pa_cons (pe_tup (pa_cons (pe_tup (pa_cons pe_str pa_nil)) pa_nil)) pa_nil))))))) pss_nil)
      (pss_cons (ps_set (i := 6) sc_law.nd rfl (.inl rfl) (pe_call (ok_law_launch T) (hr.mono (by decide)) (by rfl) T.g_law_launch T.F_law_launch.kp T.b_law_launch .nil pass0 (pa_cons (pv 1) (pa_cons (pv 4) pa_nil))))
      (pss_cons (ps_if (pt_cmpR op_notN (pe_call (ok_law_told T) (hr.mono (by decide)) (by rfl) T.g_law_told T.F_law_told.kp T.b_law_told .nil pass0 (pa_cons (pv 4) (pa_cons (pv 6) pa_nil))) pe_non (nomark _)) (pss_one (ps_ret pe_bl)) pss_nil)
      (C8.pss_cut (ps_if (pt_cmpR op_gt (pe_call (ok_law_draw T) (hr.mono (by decide)) (by rfl) T.g_law_draw T.F_law_draw.kp T.b_law_draw .nil pass0 (pa_cons (pv 1) (pa_cons pe_int pa_nil))) pe_int (nomark _)) (pss_one (ps_set (i := 6) sc_law.nd rfl (.inl rfl) (pe_call (ok_law_changed T) (hr.mono (by decide)) (by rfl) T.g_law_changed T.F_law_changed.kp T.b_law_changed .nil pass0 (pa_cons (pv 1) (pa_cons (pv 6) pa_nil))))) pss_nil)
      (pss_cons (ps_set (i := 7) sc_law.nd rfl (.inl rfl) pe_non)
      (C8.pss_cut (ps_if (pt_not (pt_val (pe_call (ok_law_is_good T) (hr.mono (by decide)) (by rfl) T.g_law_is_good T.F_law_is_good.kp T.b_law_is_good .nil pass0 (pa_cons (pv 4) (pa_cons (pv 6) pa_nil))))) (pss_one (ps_set (i := 7) sc_law.nd rfl (.inl rfl) (pe_tup (pa_cons pe_str (pa_cons pe_str pa_nil))))) pss_nil)
      (pss_one (ps_ret (pe_cmpR (op_eqD hr.units) (pe_call (ok_law_told T) (hr.mono (by decide)) (by rfl) T.g_law_told T.F_law_told.kp T.b_law_told .nil pass0 (pa_cons (pv 4) (pa_cons (pv 6) pa_nil))) (pv 7) (nomark _))))))))))))))), ?_⟩
    refine ⟨_, rfl, a, ns, rfl, hS, hlen, fun H1 p q s1 np nq S1 => ?_⟩
    refine ⟨_, rfl, p, q, rfl, S1, fun r H2 ps sh hpl b2 S2 dr => ?_⟩
    cases dr with
    | @tup ar vrs _ har rar =>
    cases rar with
    | @cons vp _ _ _ dp rar =>
    cases rar with
    | @cons vs _ _ _ ds rar =>
    cases rar with
    | nil =>
    refine ⟨ar, _, rfl, har.sq, rfl, vp, _, rfl, vs, _, rfl, rfl, ?_⟩
    -- the kernel
    refine ⟨_, rfl, _, rfl, Nat.zero_le _, fun t1 n1 => ⟨(by show 3 ≤ sizeLine; decide), fun t2 n2 => ?_⟩⟩
    have s3 := same_new5 (o := .tup []) n1
    have s4 := same_new5 (o := .tup [vp, vs, .ref t1]) n2
    have s34 := s3.trans s4
    have S4 := (S2.same s3).same s4
    have dk : Dt (M1 p) K _ (.ref t2) (.tuple [.tuple (ps.map pairD), .tuple sh, .tuple []]) := .laid ((S2.same s3).nep n2) upd_same (.cons (dp.off (Off.of s34)) (.cons (ds.off (Off.of s34)) (.cons (.laid (S2.nep n1) (s4 _ _ upd_same) .nil) .nil)))
    refine ⟨_, rfl, p, q, 3, rfl, S4, by decide, by decide, fun pick H5 _ _ b5 S5 => ?_⟩
    have dk5 := dk.off b5.off
    have dp5 := (dp.off (Off.of s34)).off b5.off
    have ds5 := (ds.off (Off.of s34)).off b5.off
    refine ⟨fun σ' H' => ∃ (kv : V) (rest : List PyData), σ' = [some (.ref a), some (.ref p), some vp, some vs, some kv, some (.int pick), none, none] ∧ Strm q H' p ∧ Dt (M1 p) K H' kv (.tuple (.tuple (ps.map pairD) :: rest)) ∧ Dt (M1 p) K H' vp (.tuple (ps.map pairD)) ∧ Dt (M1 p) K H' vs (.tuple sh), ?_, ?_⟩
    · refine ⟨_, rfl, rfl, _, rfl, ite2 (fun z => ?_) (fun z => ⟨_, _, rfl, S5, dk5, dp5, ds5⟩)⟩
      refine ⟨_, rfl, _, rfl, Nat.zero_le _, fun u1 m1 => ⟨(by show 1 ≤ sizeLine; decide), fun u2 m2 => ⟨(by show 2 ≤ sizeLine; decide), fun u3 m3 => ⟨(by show 1 ≤ sizeLine; decide), fun u4 m4 => ⟨(by show 4 ≤ sizeLine; decide), fun u5 m5 => ?_⟩⟩⟩⟩⟩
      have z1 := same_new5 (o := .tup []) m1
      have z2 := same_new5 (o := .tup [.str "exit"]) m2
      have z3 := same_new5 (o := .tup [.ref u1, .ref u2]) m3
      have z4 := same_new5 (o := .tup [.ref u3]) m4
      have z5 := same_new5 (o := .tup [vp, vs, .int 0, .ref u4]) m5
      have x1 := S5.same z1
      have x2 := x1.same z2
      have x3 := x2.same z3
      have x4 := x3.same z4
      have x5 := x4.same z5
      have all := (((z1.trans z2).trans z3).trans z4).trans z5
      have e4 : Dt (M1 p) K _ (.ref u4) (.tuple [.tuple [.tuple [], .tuple [.str "exit"]]]) := .laid (x3.nep m4) (z5 _ _ upd_same) (.cons (.laid (x2.nep m3) ((z4.trans z5) _ _ upd_same) (.cons (.laid (S5.nep m1) ((((z2.trans z3).trans z4).trans z5) _ _ upd_same) .nil) (.cons (.laid (x1.nep m2) (((z3.trans z4).trans z5) _ _ upd_same) (.cons (.str _) .nil)) .nil))) .nil)
      exact ⟨_, _, rfl, x5, .laid (x4.nep m5) upd_same (.cons (dp5.off (Off.of all)) (.cons (ds5.off (Off.of all)) (.cons (.int 0) (.cons e4 .nil)))), dp5.off (Off.of all), ds5.off (Off.of all)⟩
    rintro σ' H6 ⟨kv6, rest6, rfl, S6, dk6, dp6, ds6⟩
    refine ⟨fun σ' H' => ∃ (kv : V) (rest : List PyData), σ' = [some (.ref a), some (.ref p), some vp, some vs, some kv, some (.int pick), none, none] ∧ Strm q H' p ∧ Dt (M1 p) K H' kv (.tuple (.tuple (ps.map pairD) :: rest)), ?_, ?_⟩
    · refine ⟨_, rfl, rfl, _, rfl, ite2 (fun z => ?_) (fun z => ⟨_, _, rfl, S6, dk6⟩)⟩
      refine ⟨_, rfl, _, rfl, (by show 1 ≤ sizeLine; decide), fun u2 m2 => ⟨(by show 1 ≤ sizeLine; decide), fun u4 m4 => ⟨(by show 4 ≤ sizeLine; decide), fun u5 m5 => ?_⟩⟩⟩
      have z2 := same_new5 (o := .tup [.str "exit"]) m2
      have z4 := same_new5 (o := .tup [.ref u2]) m4
      have z5 := same_new5 (o := .tup [vp, vs, .int 0, .ref u4]) m5
      have x2 := S6.same z2
      have x4 := x2.same z4
      have x5 := x4.same z5
      have all := (z2.trans z4).trans z5
      have e4 : Dt (M1 p) K _ (.ref u4) (.tuple [.tuple [.str "exit"]]) := .laid (x2.nep m4) (z5 _ _ upd_same) (.cons (.laid (S6.nep m2) ((z4.trans z5) _ _ upd_same) (.cons (.str _) .nil)) .nil)
      exact ⟨_, _, rfl, x5, .laid (x4.nep m5) upd_same (.cons (dp6.off (Off.of all)) (.cons (ds6.off (Off.of all)) (.cons (.int 0) (.cons e4 .nil))))⟩
    rintro σ' H7 ⟨kv, rest, rfl, S7, dk7⟩
    -- the launch
    refine ⟨_, rfl, _, rfl, p, q, kv, ps, rest, rfl, S7, dk7, hpl, fun v H8 d hd b8 S8 dv8 => ?_⟩
    have dk8 := dk7.off b8.off
    refine ⟨_, rfl, _, rfl, v, kv, d, ps, rest, rfl, dv8.dp, dk8.dp, fun _ H9 s9 => ?_, fun z => absurd hd (by rw [z]; exact Bool.false_ne_true)⟩
    refine ⟨rfl, _, rfl, iteNS rfl ?_⟩
    have S9 := S8.same s9
    have dk9 := dk8.off (Off.of s9)
    have dv9 := dv8.off (Off.of s9)
    -- changed, or not
    refine ⟨fun σ' H' => ∃ (v : V) (d : PyData), σ' = [some (.ref a), some (.ref p), some vp, some vs, some kv, some (.int pick), some v, none] ∧ Strm q H' p ∧ Dt (M1 p) K H' kv (.tuple (.tuple (ps.map pairD) :: rest)) ∧ Dt (M1 p) K H' v d, ?_, ?_⟩
    · refine ⟨_, rfl, p, q, 3, rfl, S9, by decide, by decide, fun u HA _ _ bA SA => ⟨_, _, rfl, rfl, _, rfl, ite2 (fun z => ?_) (fun z => ⟨v, d, rfl, SA, dk9.off bA.off, dv9.off bA.off⟩)⟩⟩
      obtain ⟨g, b, as, us, rfl, el, hu⟩ := launch_shape hd
      rw [List.length_map] at el
      refine ⟨_, rfl, _, rfl, p, q, v, g, b, as, us, rfl, SA, dv9.off bA.off, by omega, by omega, fun r HB dB bB SB dr => ⟨r, dB, rfl, SB, (dk9.off bA.off).off bB.off, dr⟩⟩
    rintro σ' HC ⟨v, d, rfl, SC, dkC, dvC⟩
    refine ⟨fun σ' H' => ∃ (due : V), σ' = [some (.ref a), some (.ref p), some vp, some vs, some kv, some (.int pick), some v, some due] ∧ Dp K H' kv (.tuple (.tuple (ps.map pairD) :: rest)) ∧ Dp K H' v d ∧ ((launchD (ps.map (·.2)) d = true ∧ due = .non) ∨ (launchD (ps.map (·.2)) d = false ∧ Dp K H' due (refused "launch"))), ?_, ?_⟩
    · refine ⟨_, rfl, _, rfl, v, kv, d, ps, rest, rfl, dvC.dp, dkC.dp, by omega, fun HD sD => ⟨_, rfl, ?_⟩⟩
      by_cases hg : launchD (ps.map (·.2)) d = true
      · rw [hg]
        exact iteF ⟨.non, rfl, dkC.dp.same sD, dvC.dp.same sD, .inl ⟨rfl, rfl⟩⟩
      · rw [Bool.eq_false_iff.mpr hg]
        refine iteT ⟨(by show 2 ≤ sizeLine; decide), fun t nt => ?_⟩
        have st := same_new5 (o := .tup [.str "refused", .str "launch"]) nt
        exact ⟨.ref t, rfl, (dkC.dp.same sD).same st, (dvC.dp.same sD).same st, .inr ⟨rfl, .tup (SqT.of upd_same) (.cons (.str _) (.cons (.str _) .nil))⟩⟩
    rintro σ' HE ⟨due, rfl, dkE, dvE, hdue⟩
    refine ⟨_, rfl, _, rfl, v, kv, d, ps, rest, rfl, dvE, dkE, fun hl HF sF => ?_, fun hl HF r sF dr => ?_⟩
    · rcases hdue with ⟨_, rfl⟩ | ⟨z, _⟩
      · refine ⟨_, rfl, .none, .none, .non, .non, non_shaped, non_shaped, ?_⟩
        rw [non_eq]
        exact qq _
      · exact absurd hl (by rw [z]; exact Bool.false_ne_true)
    · rcases hdue with ⟨z, _⟩ | ⟨_, dd⟩
      · exact absurd z (by rw [hl]; exact Bool.false_ne_true)
      · refine ⟨_, rfl, _, _, dr, dd.same sF, ref_shaped, ref_shaped, ?_⟩
        rw [ref_eq]
        exact qq _
end
/-! ### what the top has written, the end -/
theorem all_mk {l : PySem.W.OpenLaw} {w : World} {K : PySem.W.Frag} {h : Heap} {mg : Str → Option Value} {fa : Addr} (X : K.In h) (G : h.Ns mainGlobals mg) (hfa : mg "law" = some (.ref fa))
    {fis_between : Addr} {odis_between anis_between : Option Addr} {slis_between : Array (Option Value)} {ocis_between kVis_between dcis_between pmis_between cdis_between ctis_between : Value}
    {fis_word : Addr} {odis_word anis_word : Option Addr} {slis_word : Array (Option Value)} {ocis_word kVis_word dcis_word pmis_word cdis_word ctis_word : Value}
    {fis_tuple : Addr} {odis_tuple anis_tuple : Option Addr} {slis_tuple : Array (Option Value)} {ocis_tuple kVis_tuple dcis_tuple pmis_tuple cdis_tuple ctis_tuple : Value}
    {fis_buffer : Addr} {odis_buffer anis_buffer : Option Addr} {slis_buffer : Array (Option Value)} {ocis_buffer kVis_buffer dcis_buffer pmis_buffer cdis_buffer ctis_buffer : Value}
    {fis_argument : Addr} {odis_argument anis_argument : Option Addr} {slis_argument : Array (Option Value)} {ocis_argument kVis_argument dcis_argument pmis_argument cdis_argument ctis_argument : Value}
    {fare_arguments : Addr} {odare_arguments anare_arguments : Option Addr} {slare_arguments : Array (Option Value)} {ocare_arguments kVare_arguments dcare_arguments pmare_arguments cdare_arguments ctare_arguments : Value}
    {fis_launch : Addr} {odis_launch anis_launch : Option Addr} {slis_launch : Array (Option Value)} {ocis_launch kVis_launch dcis_launch pmis_launch cdis_launch ctis_launch : Value}
    {fcheck_launch : Addr} {odcheck_launch ancheck_launch : Option Addr} {slcheck_launch : Array (Option Value)} {occheck_launch kVcheck_launch dccheck_launch pmcheck_launch cdcheck_launch ctcheck_launch : Value}
    {flaw_stream : Addr} {odlaw_stream anlaw_stream : Option Addr} {sllaw_stream : Array (Option Value)} {oclaw_stream kVlaw_stream dclaw_stream pmlaw_stream cdlaw_stream ctlaw_stream : Value}
    {flaw_draw : Addr} {odlaw_draw anlaw_draw : Option Addr} {sllaw_draw : Array (Option Value)} {oclaw_draw kVlaw_draw dclaw_draw pmlaw_draw cdlaw_draw ctlaw_draw : Value}
    {flaw_params : Addr} {odlaw_params anlaw_params : Option Addr} {sllaw_params : Array (Option Value)} {oclaw_params kVlaw_params dclaw_params pmlaw_params cdlaw_params ctlaw_params : Value}
    {flaw_launch : Addr} {odlaw_launch anlaw_launch : Option Addr} {sllaw_launch : Array (Option Value)} {oclaw_launch kVlaw_launch dclaw_launch pmlaw_launch cdlaw_launch ctlaw_launch : Value}
    {flaw_given : Addr} {odlaw_given anlaw_given : Option Addr} {sllaw_given : Array (Option Value)} {oclaw_given kVlaw_given dclaw_given pmlaw_given cdlaw_given ctlaw_given : Value}
    {flaw_told : Addr} {odlaw_told anlaw_told : Option Addr} {sllaw_told : Array (Option Value)} {oclaw_told kVlaw_told dclaw_told pmlaw_told cdlaw_told ctlaw_told : Value}
    {flaw_is_number : Addr} {odlaw_is_number anlaw_is_number : Option Addr} {sllaw_is_number : Array (Option Value)} {oclaw_is_number kVlaw_is_number dclaw_is_number pmlaw_is_number cdlaw_is_number ctlaw_is_number : Value}
    {flaw_is_word : Addr} {odlaw_is_word anlaw_is_word : Option Addr} {sllaw_is_word : Array (Option Value)} {oclaw_is_word kVlaw_is_word dclaw_is_word pmlaw_is_word cdlaw_is_word ctlaw_is_word : Value}
    {flaw_is_good : Addr} {odlaw_is_good anlaw_is_good : Option Addr} {sllaw_is_good : Array (Option Value)} {oclaw_is_good kVlaw_is_good dclaw_is_good pmlaw_is_good cdlaw_is_good ctlaw_is_good : Value}
    {flaw_odd : Addr} {odlaw_odd anlaw_odd : Option Addr} {sllaw_odd : Array (Option Value)} {oclaw_odd kVlaw_odd dclaw_odd pmlaw_odd cdlaw_odd ctlaw_odd : Value}
    {flaw_changed : Addr} {odlaw_changed anlaw_changed : Option Addr} {sllaw_changed : Array (Option Value)} {oclaw_changed kVlaw_changed dclaw_changed pmlaw_changed cdlaw_changed ctlaw_changed : Value}
    {flaw : Addr} {odlaw anlaw : Option Addr} {sllaw : Array (Option Value)} {oclaw kVlaw dclaw pmlaw cdlaw ctlaw : Value}
    {CDrawloomError : Addr}
    {CBadLaunch : Addr}
    {tLEAST : Tok}
    {tGREATEST : Tok}
    {tMOST_BLOCKS : Tok}
    {tMOST_THREADS : Tok}
    {tMOST_BUFFERS : Tok}
    {tMOST_BUFFER_CELLS : Tok}
    (ais_between : PySem.W.nsIn K mainGlobals "is_between" = some (some (.ref fis_between)))
    (lis_between : K.lookup fis_between = some ⟨ocis_between, odis_between, .func (PySem.W.fnOf "is_between" "is_between" (defArgs s_is_between) (defBody s_is_between) (defScope s_is_between) .none kVis_between dcis_between pmis_between anis_between cdis_between ctis_between), slis_between⟩)
    (cis_between : PySem.W.codeIn K cdis_between "is_between" = true)
    (kis_between : PySem.W.keepIn K (.ref fis_between) = true)
    (ais_word : PySem.W.nsIn K mainGlobals "is_word" = some (some (.ref fis_word)))
    (lis_word : K.lookup fis_word = some ⟨ocis_word, odis_word, .func (PySem.W.fnOf "is_word" "is_word" (defArgs s_is_word) (defBody s_is_word) (defScope s_is_word) .none kVis_word dcis_word pmis_word anis_word cdis_word ctis_word), slis_word⟩)
    (cis_word : PySem.W.codeIn K cdis_word "is_word" = true)
    (kis_word : PySem.W.keepIn K (.ref fis_word) = true)
    (ais_tuple : PySem.W.nsIn K mainGlobals "is_tuple" = some (some (.ref fis_tuple)))
    (lis_tuple : K.lookup fis_tuple = some ⟨ocis_tuple, odis_tuple, .func (PySem.W.fnOf "is_tuple" "is_tuple" (defArgs s_is_tuple) (defBody s_is_tuple) (defScope s_is_tuple) .none kVis_tuple dcis_tuple pmis_tuple anis_tuple cdis_tuple ctis_tuple), slis_tuple⟩)
    (cis_tuple : PySem.W.codeIn K cdis_tuple "is_tuple" = true)
    (kis_tuple : PySem.W.keepIn K (.ref fis_tuple) = true)
    (ais_buffer : PySem.W.nsIn K mainGlobals "is_buffer" = some (some (.ref fis_buffer)))
    (lis_buffer : K.lookup fis_buffer = some ⟨ocis_buffer, odis_buffer, .func (PySem.W.fnOf "is_buffer" "is_buffer" (defArgs s_is_buffer) (defBody s_is_buffer) (defScope s_is_buffer) .none kVis_buffer dcis_buffer pmis_buffer anis_buffer cdis_buffer ctis_buffer), slis_buffer⟩)
    (cis_buffer : PySem.W.codeIn K cdis_buffer "is_buffer" = true)
    (kis_buffer : PySem.W.keepIn K (.ref fis_buffer) = true)
    (ais_argument : PySem.W.nsIn K mainGlobals "is_argument" = some (some (.ref fis_argument)))
    (lis_argument : K.lookup fis_argument = some ⟨ocis_argument, odis_argument, .func (PySem.W.fnOf "is_argument" "is_argument" (defArgs s_is_argument) (defBody s_is_argument) (defScope s_is_argument) .none kVis_argument dcis_argument pmis_argument anis_argument cdis_argument ctis_argument), slis_argument⟩)
    (cis_argument : PySem.W.codeIn K cdis_argument "is_argument" = true)
    (kis_argument : PySem.W.keepIn K (.ref fis_argument) = true)
    (aare_arguments : PySem.W.nsIn K mainGlobals "are_arguments" = some (some (.ref fare_arguments)))
    (lare_arguments : K.lookup fare_arguments = some ⟨ocare_arguments, odare_arguments, .func (PySem.W.fnOf "are_arguments" "are_arguments" (defArgs s_are_arguments) (defBody s_are_arguments) (defScope s_are_arguments) .none kVare_arguments dcare_arguments pmare_arguments anare_arguments cdare_arguments ctare_arguments), slare_arguments⟩)
    (care_arguments : PySem.W.codeIn K cdare_arguments "are_arguments" = true)
    (kare_arguments : PySem.W.keepIn K (.ref fare_arguments) = true)
    (ais_launch : PySem.W.nsIn K mainGlobals "is_launch" = some (some (.ref fis_launch)))
    (lis_launch : K.lookup fis_launch = some ⟨ocis_launch, odis_launch, .func (PySem.W.fnOf "is_launch" "is_launch" (defArgs s_is_launch) (defBody s_is_launch) (defScope s_is_launch) .none kVis_launch dcis_launch pmis_launch anis_launch cdis_launch ctis_launch), slis_launch⟩)
    (cis_launch : PySem.W.codeIn K cdis_launch "is_launch" = true)
    (kis_launch : PySem.W.keepIn K (.ref fis_launch) = true)
    (acheck_launch : PySem.W.nsIn K mainGlobals "check_launch" = some (some (.ref fcheck_launch)))
    (lcheck_launch : K.lookup fcheck_launch = some ⟨occheck_launch, odcheck_launch, .func (PySem.W.fnOf "check_launch" "check_launch" (defArgs s_check_launch) (defBody s_check_launch) (defScope s_check_launch) .none kVcheck_launch dccheck_launch pmcheck_launch ancheck_launch cdcheck_launch ctcheck_launch), slcheck_launch⟩)
    (ccheck_launch : PySem.W.codeIn K cdcheck_launch "check_launch" = true)
    (kcheck_launch : PySem.W.keepIn K (.ref fcheck_launch) = true)
    (alaw_stream : PySem.W.nsIn K mainGlobals "_law_stream" = some (some (.ref flaw_stream)))
    (llaw_stream : K.lookup flaw_stream = some ⟨oclaw_stream, odlaw_stream, .func (PySem.W.fnOf "_law_stream" "_law_stream" (defArgs s_law_stream) (defBody s_law_stream) (defScope s_law_stream) .none kVlaw_stream dclaw_stream pmlaw_stream anlaw_stream cdlaw_stream ctlaw_stream), sllaw_stream⟩)
    (claw_stream : PySem.W.codeIn K cdlaw_stream "_law_stream" = true)
    (klaw_stream : PySem.W.keepIn K (.ref flaw_stream) = true)
    (alaw_draw : PySem.W.nsIn K mainGlobals "_law_draw" = some (some (.ref flaw_draw)))
    (llaw_draw : K.lookup flaw_draw = some ⟨oclaw_draw, odlaw_draw, .func (PySem.W.fnOf "_law_draw" "_law_draw" (defArgs s_law_draw) (defBody s_law_draw) (defScope s_law_draw) .none kVlaw_draw dclaw_draw pmlaw_draw anlaw_draw cdlaw_draw ctlaw_draw), sllaw_draw⟩)
    (claw_draw : PySem.W.codeIn K cdlaw_draw "_law_draw" = true)
    (klaw_draw : PySem.W.keepIn K (.ref flaw_draw) = true)
    (alaw_params : PySem.W.nsIn K mainGlobals "_law_params" = some (some (.ref flaw_params)))
    (llaw_params : K.lookup flaw_params = some ⟨oclaw_params, odlaw_params, .func (PySem.W.fnOf "_law_params" "_law_params" (defArgs s_law_params) (defBody s_law_params) (defScope s_law_params) .none kVlaw_params dclaw_params pmlaw_params anlaw_params cdlaw_params ctlaw_params), sllaw_params⟩)
    (claw_params : PySem.W.codeIn K cdlaw_params "_law_params" = true)
    (klaw_params : PySem.W.keepIn K (.ref flaw_params) = true)
    (alaw_launch : PySem.W.nsIn K mainGlobals "_law_launch" = some (some (.ref flaw_launch)))
    (llaw_launch : K.lookup flaw_launch = some ⟨oclaw_launch, odlaw_launch, .func (PySem.W.fnOf "_law_launch" "_law_launch" (defArgs s_law_launch) (defBody s_law_launch) (defScope s_law_launch) .none kVlaw_launch dclaw_launch pmlaw_launch anlaw_launch cdlaw_launch ctlaw_launch), sllaw_launch⟩)
    (claw_launch : PySem.W.codeIn K cdlaw_launch "_law_launch" = true)
    (klaw_launch : PySem.W.keepIn K (.ref flaw_launch) = true)
    (alaw_given : PySem.W.nsIn K mainGlobals "_law_given" = some (some (.ref flaw_given)))
    (llaw_given : K.lookup flaw_given = some ⟨oclaw_given, odlaw_given, .func (PySem.W.fnOf "_law_given" "_law_given" (defArgs s_law_given) (defBody s_law_given) (defScope s_law_given) .none kVlaw_given dclaw_given pmlaw_given anlaw_given cdlaw_given ctlaw_given), sllaw_given⟩)
    (claw_given : PySem.W.codeIn K cdlaw_given "_law_given" = true)
    (klaw_given : PySem.W.keepIn K (.ref flaw_given) = true)
    (alaw_told : PySem.W.nsIn K mainGlobals "_law_told" = some (some (.ref flaw_told)))
    (llaw_told : K.lookup flaw_told = some ⟨oclaw_told, odlaw_told, .func (PySem.W.fnOf "_law_told" "_law_told" (defArgs s_law_told) (defBody s_law_told) (defScope s_law_told) .none kVlaw_told dclaw_told pmlaw_told anlaw_told cdlaw_told ctlaw_told), sllaw_told⟩)
    (claw_told : PySem.W.codeIn K cdlaw_told "_law_told" = true)
    (klaw_told : PySem.W.keepIn K (.ref flaw_told) = true)
    (alaw_is_number : PySem.W.nsIn K mainGlobals "_law_is_number" = some (some (.ref flaw_is_number)))
    (llaw_is_number : K.lookup flaw_is_number = some ⟨oclaw_is_number, odlaw_is_number, .func (PySem.W.fnOf "_law_is_number" "_law_is_number" (defArgs s_law_is_number) (defBody s_law_is_number) (defScope s_law_is_number) .none kVlaw_is_number dclaw_is_number pmlaw_is_number anlaw_is_number cdlaw_is_number ctlaw_is_number), sllaw_is_number⟩)
    (claw_is_number : PySem.W.codeIn K cdlaw_is_number "_law_is_number" = true)
    (klaw_is_number : PySem.W.keepIn K (.ref flaw_is_number) = true)
    (alaw_is_word : PySem.W.nsIn K mainGlobals "_law_is_word" = some (some (.ref flaw_is_word)))
    (llaw_is_word : K.lookup flaw_is_word = some ⟨oclaw_is_word, odlaw_is_word, .func (PySem.W.fnOf "_law_is_word" "_law_is_word" (defArgs s_law_is_word) (defBody s_law_is_word) (defScope s_law_is_word) .none kVlaw_is_word dclaw_is_word pmlaw_is_word anlaw_is_word cdlaw_is_word ctlaw_is_word), sllaw_is_word⟩)
    (claw_is_word : PySem.W.codeIn K cdlaw_is_word "_law_is_word" = true)
    (klaw_is_word : PySem.W.keepIn K (.ref flaw_is_word) = true)
    (alaw_is_good : PySem.W.nsIn K mainGlobals "_law_is_good" = some (some (.ref flaw_is_good)))
    (llaw_is_good : K.lookup flaw_is_good = some ⟨oclaw_is_good, odlaw_is_good, .func (PySem.W.fnOf "_law_is_good" "_law_is_good" (defArgs s_law_is_good) (defBody s_law_is_good) (defScope s_law_is_good) .none kVlaw_is_good dclaw_is_good pmlaw_is_good anlaw_is_good cdlaw_is_good ctlaw_is_good), sllaw_is_good⟩)
    (claw_is_good : PySem.W.codeIn K cdlaw_is_good "_law_is_good" = true)
    (klaw_is_good : PySem.W.keepIn K (.ref flaw_is_good) = true)
    (alaw_odd : PySem.W.nsIn K mainGlobals "_law_odd" = some (some (.ref flaw_odd)))
    (llaw_odd : K.lookup flaw_odd = some ⟨oclaw_odd, odlaw_odd, .func (PySem.W.fnOf "_law_odd" "_law_odd" (defArgs s_law_odd) (defBody s_law_odd) (defScope s_law_odd) .none kVlaw_odd dclaw_odd pmlaw_odd anlaw_odd cdlaw_odd ctlaw_odd), sllaw_odd⟩)
    (claw_odd : PySem.W.codeIn K cdlaw_odd "_law_odd" = true)
    (klaw_odd : PySem.W.keepIn K (.ref flaw_odd) = true)
    (alaw_changed : PySem.W.nsIn K mainGlobals "_law_changed" = some (some (.ref flaw_changed)))
    (llaw_changed : K.lookup flaw_changed = some ⟨oclaw_changed, odlaw_changed, .func (PySem.W.fnOf "_law_changed" "_law_changed" (defArgs s_law_changed) (defBody s_law_changed) (defScope s_law_changed) .none kVlaw_changed dclaw_changed pmlaw_changed anlaw_changed cdlaw_changed ctlaw_changed), sllaw_changed⟩)
    (claw_changed : PySem.W.codeIn K cdlaw_changed "_law_changed" = true)
    (klaw_changed : PySem.W.keepIn K (.ref flaw_changed) = true)
    (alaw : PySem.W.nsIn K mainGlobals "law" = some (some (.ref flaw)))
    (llaw : K.lookup flaw = some ⟨oclaw, odlaw, .func (PySem.W.fnOf "law" "law" (defArgs s_law) (defBody s_law) (defScope s_law) .none kVlaw dclaw pmlaw anlaw cdlaw ctlaw), sllaw⟩)
    (claw : PySem.W.codeIn K cdlaw "law" = true)
    (klaw : PySem.W.keepIn K (.ref flaw) = true)
    (aCDrawloomError : PySem.W.nsIn K mainGlobals "DrawloomError" = some (some (.ref CDrawloomError)))
    (xCDrawloomError : PySem.W.excIn K CDrawloomError [.type "ValueError", .type "Exception", .type "BaseException", .type "object"] "ValueError.__new__" = true)
    (kCDrawloomError : PySem.W.keepIn K (.ref CDrawloomError) = true)
    (bCDrawloomError : PySem.W.subIn K (.ref CDrawloomError) (.type "BaseException") = some true)
    (tCDrawloomError : PySem.W.typeIn K (.ref CDrawloomError) = some (.type "type"))
    (dCDrawloomError : PySem.W.hasDictIn K CDrawloomError = true)
    (mCDrawloomError : PySem.W.subIn K (.ref CDrawloomError) (.ref CDrawloomError) = some true)
    (e1DrawloomError : PySem.W.findIn K (.ref CDrawloomError) "__getattribute__" = some (some (.builtin "BaseException.__getattribute__")))
    (e2DrawloomError : PySem.W.findIn K (.ref CDrawloomError) "__getattr__" = some none)
    (e5DrawloomError : PySem.W.findIn K (.ref CDrawloomError) "__class__" = some (some (.builtin "object.__class__")))
    (e6DrawloomError : PySem.W.specialIn K (.builtin "object.__class__") "__get__" = some (some (.builtin "getset_descriptor.__get__")))
    (e7DrawloomError : PySem.W.takesIn K (.builtin "object.__class__") = some true)
    (e8DrawloomError : PySem.W.mroIn K CDrawloomError (.type "object") = some true)
    (vDrawloomError : PySem.W.kitOne K (.ref CDrawloomError) (.type "ValueError") = some true)
    (aCBadLaunch : PySem.W.nsIn K mainGlobals "BadLaunch" = some (some (.ref CBadLaunch)))
    (xCBadLaunch : PySem.W.excIn K CBadLaunch [.type "ValueError", .type "Exception", .type "BaseException", .type "object"] "ValueError.__new__" = true)
    (kCBadLaunch : PySem.W.keepIn K (.ref CBadLaunch) = true)
    (bCBadLaunch : PySem.W.subIn K (.ref CBadLaunch) (.type "BaseException") = some true)
    (tCBadLaunch : PySem.W.typeIn K (.ref CBadLaunch) = some (.type "type"))
    (dCBadLaunch : PySem.W.hasDictIn K CBadLaunch = true)
    (mCBadLaunch : PySem.W.subIn K (.ref CBadLaunch) (.ref CBadLaunch) = some true)
    (e1BadLaunch : PySem.W.findIn K (.ref CBadLaunch) "__getattribute__" = some (some (.builtin "BaseException.__getattribute__")))
    (e2BadLaunch : PySem.W.findIn K (.ref CBadLaunch) "__getattr__" = some none)
    (e5BadLaunch : PySem.W.findIn K (.ref CBadLaunch) "__class__" = some (some (.builtin "object.__class__")))
    (e6BadLaunch : PySem.W.specialIn K (.builtin "object.__class__") "__get__" = some (some (.builtin "getset_descriptor.__get__")))
    (e7BadLaunch : PySem.W.takesIn K (.builtin "object.__class__") = some true)
    (e8BadLaunch : PySem.W.mroIn K CBadLaunch (.type "object") = some true)
    (vBadLaunch : PySem.W.kitOne K (.ref CBadLaunch) (.type "ValueError") = some true)
    (kkBadLaunchDrawloomError : PySem.W.kitOne K (.ref CBadLaunch) (.ref CDrawloomError) = some true)
    (zValueError : PySem.W.nsIn K mainGlobals "ValueError" = some none)
    (zabs : PySem.W.nsIn K mainGlobals "abs" = some none)
    (zall : PySem.W.nsIn K mainGlobals "all" = some none)
    (zbool : PySem.W.nsIn K mainGlobals "bool" = some none)
    (zint : PySem.W.nsIn K mainGlobals "int" = some none)
    (zisinstance : PySem.W.nsIn K mainGlobals "isinstance" = some none)
    (zlen : PySem.W.nsIn K mainGlobals "len" = some none)
    (zlist : PySem.W.nsIn K mainGlobals "list" = some none)
    (zrange : PySem.W.nsIn K mainGlobals "range" = some none)
    (ztuple : PySem.W.nsIn K mainGlobals "tuple" = some none)
    (zzip : PySem.W.nsIn K mainGlobals "zip" = some none)
    (iLEAST : PySem.W.nsIn K mainGlobals "LEAST" = some (some (.int (-2147483648) tLEAST)))
    (iGREATEST : PySem.W.nsIn K mainGlobals "GREATEST" = some (some (.int (2147483647) tGREATEST)))
    (iMOST_BLOCKS : PySem.W.nsIn K mainGlobals "MOST_BLOCKS" = some (some (.int (4) tMOST_BLOCKS)))
    (iMOST_THREADS : PySem.W.nsIn K mainGlobals "MOST_THREADS" = some (some (.int (8) tMOST_THREADS)))
    (iMOST_BUFFERS : PySem.W.nsIn K mainGlobals "MOST_BUFFERS" = some (some (.int (4) tMOST_BUFFERS)))
    (iMOST_BUFFER_CELLS : PySem.W.nsIn K mainGlobals "MOST_BUFFER_CELLS" = some (some (.int (24) tMOST_BUFFER_CELLS))) :
    ∃ fd : FuncData, (∀ (s : Shared) (v : Value), BindsTo s fd ⟨[v], []⟩ [("script", v)]) ∧ ∀ base : Heap, K.In base → base.Ns mainGlobals mg → FnOk l.prog w K mg base CX0 8 fa fd ["script"] (sp_law K) := by
  have e := hfa.symm.trans (PySem.W.mg_of X G alaw)
  cases e
  let T : Tx w K mg := {
    a_is_between := fis_between,
    d_is_between := _,
    F_is_between := fun_mk (st := s_is_between) lis_between cis_between kis_between,
    b_is_between := (fun_mk (st := s_is_between) lis_between cis_between kis_between).binds (ps := ["value", "least", "most"]) fun _ _ _ _ _ _ us hl => match us, hl with | [_, _, _], _ => rfl,
    g_is_between := PySem.W.mg_of X G ais_between,
    a_is_word := fis_word,
    d_is_word := _,
    F_is_word := fun_mk (st := s_is_word) lis_word cis_word kis_word,
    b_is_word := (fun_mk (st := s_is_word) lis_word cis_word kis_word).binds (ps := ["value"]) fun _ _ _ _ _ _ us hl => match us, hl with | [_], _ => rfl,
    g_is_word := PySem.W.mg_of X G ais_word,
    a_is_tuple := fis_tuple,
    d_is_tuple := _,
    F_is_tuple := fun_mk (st := s_is_tuple) lis_tuple cis_tuple kis_tuple,
    b_is_tuple := (fun_mk (st := s_is_tuple) lis_tuple cis_tuple kis_tuple).binds (ps := ["value", "least", "most"]) fun _ _ _ _ _ _ us hl => match us, hl with | [_, _, _], _ => rfl,
    g_is_tuple := PySem.W.mg_of X G ais_tuple,
    a_is_buffer := fis_buffer,
    d_is_buffer := _,
    F_is_buffer := fun_mk (st := s_is_buffer) lis_buffer cis_buffer kis_buffer,
    b_is_buffer := (fun_mk (st := s_is_buffer) lis_buffer cis_buffer kis_buffer).binds (ps := ["value"]) fun _ _ _ _ _ _ us hl => match us, hl with | [_], _ => rfl,
    g_is_buffer := PySem.W.mg_of X G ais_buffer,
    a_is_argument := fis_argument,
    d_is_argument := _,
    F_is_argument := fun_mk (st := s_is_argument) lis_argument cis_argument kis_argument,
    b_is_argument := (fun_mk (st := s_is_argument) lis_argument cis_argument kis_argument).binds (ps := ["sort", "value", "many"]) fun _ _ _ _ _ _ us hl => match us, hl with | [_, _, _], _ => rfl,
    g_is_argument := PySem.W.mg_of X G ais_argument,
    a_are_arguments := fare_arguments,
    d_are_arguments := _,
    F_are_arguments := fun_mk (st := s_are_arguments) lare_arguments care_arguments kare_arguments,
    b_are_arguments := (fun_mk (st := s_are_arguments) lare_arguments care_arguments kare_arguments).binds (ps := ["value", "params", "many"]) fun _ _ _ _ _ _ us hl => match us, hl with | [_, _, _], _ => rfl,
    g_are_arguments := PySem.W.mg_of X G aare_arguments,
    a_is_launch := fis_launch,
    d_is_launch := _,
    F_is_launch := fun_mk (st := s_is_launch) lis_launch cis_launch kis_launch,
    b_is_launch := (fun_mk (st := s_is_launch) lis_launch cis_launch kis_launch).binds (ps := ["params", "value"]) fun _ _ _ _ _ _ us hl => match us, hl with | [_, _], _ => rfl,
    g_is_launch := PySem.W.mg_of X G ais_launch,
    a_check_launch := fcheck_launch,
    d_check_launch := _,
    F_check_launch := fun_mk (st := s_check_launch) lcheck_launch ccheck_launch kcheck_launch,
    b_check_launch := (fun_mk (st := s_check_launch) lcheck_launch ccheck_launch kcheck_launch).binds (ps := ["kernel", "value"]) fun _ _ _ _ _ _ us hl => match us, hl with | [_, _], _ => rfl,
    g_check_launch := PySem.W.mg_of X G acheck_launch,
    a_law_stream := flaw_stream,
    d_law_stream := _,
    F_law_stream := fun_mk (st := s_law_stream) llaw_stream claw_stream klaw_stream,
    b_law_stream := (fun_mk (st := s_law_stream) llaw_stream claw_stream klaw_stream).binds (ps := ["script"]) fun _ _ _ _ _ _ us hl => match us, hl with | [_], _ => rfl,
    g_law_stream := PySem.W.mg_of X G alaw_stream,
    a_law_draw := flaw_draw,
    d_law_draw := _,
    F_law_draw := fun_mk (st := s_law_draw) llaw_draw claw_draw klaw_draw,
    b_law_draw := (fun_mk (st := s_law_draw) llaw_draw claw_draw klaw_draw).binds (ps := ["stream", "many"]) fun _ _ _ _ _ _ us hl => match us, hl with | [_, _], _ => rfl,
    g_law_draw := PySem.W.mg_of X G alaw_draw,
    a_law_params := flaw_params,
    d_law_params := _,
    F_law_params := fun_mk (st := s_law_params) llaw_params claw_params klaw_params,
    b_law_params := (fun_mk (st := s_law_params) llaw_params claw_params klaw_params).binds (ps := ["stream"]) fun _ _ _ _ _ _ us hl => match us, hl with | [_], _ => rfl,
    g_law_params := PySem.W.mg_of X G alaw_params,
    a_law_launch := flaw_launch,
    d_law_launch := _,
    F_law_launch := fun_mk (st := s_law_launch) llaw_launch claw_launch klaw_launch,
    b_law_launch := (fun_mk (st := s_law_launch) llaw_launch claw_launch klaw_launch).binds (ps := ["stream", "kernel"]) fun _ _ _ _ _ _ us hl => match us, hl with | [_, _], _ => rfl,
    g_law_launch := PySem.W.mg_of X G alaw_launch,
    a_law_given := flaw_given,
    d_law_given := _,
    F_law_given := fun_mk (st := s_law_given) llaw_given claw_given klaw_given,
    b_law_given := (fun_mk (st := s_law_given) llaw_given claw_given klaw_given).binds (ps := ["told"]) fun _ _ _ _ _ _ us hl => match us, hl with | [_], _ => rfl,
    g_law_given := PySem.W.mg_of X G alaw_given,
    a_law_told := flaw_told,
    d_law_told := _,
    F_law_told := fun_mk (st := s_law_told) llaw_told claw_told klaw_told,
    b_law_told := (fun_mk (st := s_law_told) llaw_told claw_told klaw_told).binds (ps := ["kernel", "value"]) fun _ _ _ _ _ _ us hl => match us, hl with | [_, _], _ => rfl,
    g_law_told := PySem.W.mg_of X G alaw_told,
    a_law_is_number := flaw_is_number,
    d_law_is_number := _,
    F_law_is_number := fun_mk (st := s_law_is_number) llaw_is_number claw_is_number klaw_is_number,
    b_law_is_number := (fun_mk (st := s_law_is_number) llaw_is_number claw_is_number klaw_is_number).binds (ps := ["value", "low", "high"]) fun _ _ _ _ _ _ us hl => match us, hl with | [_, _, _], _ => rfl,
    g_law_is_number := PySem.W.mg_of X G alaw_is_number,
    a_law_is_word := flaw_is_word,
    d_law_is_word := _,
    F_law_is_word := fun_mk (st := s_law_is_word) llaw_is_word claw_is_word klaw_is_word,
    b_law_is_word := (fun_mk (st := s_law_is_word) llaw_is_word claw_is_word klaw_is_word).binds (ps := ["value"]) fun _ _ _ _ _ _ us hl => match us, hl with | [_], _ => rfl,
    g_law_is_word := PySem.W.mg_of X G alaw_is_word,
    a_law_is_good := flaw_is_good,
    d_law_is_good := _,
    F_law_is_good := fun_mk (st := s_law_is_good) llaw_is_good claw_is_good klaw_is_good,
    b_law_is_good := (fun_mk (st := s_law_is_good) llaw_is_good claw_is_good klaw_is_good).binds (ps := ["kernel", "value"]) fun _ _ _ _ _ _ us hl => match us, hl with | [_, _], _ => rfl,
    g_law_is_good := PySem.W.mg_of X G alaw_is_good,
    a_law_odd := flaw_odd,
    d_law_odd := _,
    F_law_odd := fun_mk (st := s_law_odd) llaw_odd claw_odd klaw_odd,
    b_law_odd := (fun_mk (st := s_law_odd) llaw_odd claw_odd klaw_odd).binds (ps := ["stream"]) fun _ _ _ _ _ _ us hl => match us, hl with | [_], _ => rfl,
    g_law_odd := PySem.W.mg_of X G alaw_odd,
    a_law_changed := flaw_changed,
    d_law_changed := _,
    F_law_changed := fun_mk (st := s_law_changed) llaw_changed claw_changed klaw_changed,
    b_law_changed := (fun_mk (st := s_law_changed) llaw_changed claw_changed klaw_changed).binds (ps := ["stream", "value"]) fun _ _ _ _ _ _ us hl => match us, hl with | [_, _], _ => rfl,
    g_law_changed := PySem.W.mg_of X G alaw_changed,
    a_law := fa,
    d_law := _,
    F_law := fun_mk (st := s_law) llaw claw klaw,
    g_law := PySem.W.mg_of X G alaw,
    c_DrawloomError := CDrawloomError,
    g_DrawloomError := PySem.W.mg_of X G aCDrawloomError,
    x_DrawloomError := xCDrawloomError,
    k_DrawloomError := kCDrawloomError,
    bx_DrawloomError := bCDrawloomError,
    ty_DrawloomError := tCDrawloomError,
    hd_DrawloomError := dCDrawloomError,
    me_DrawloomError := mCDrawloomError,
    ec_DrawloomError := ⟨e1DrawloomError, e2DrawloomError, bCDrawloomError, dCDrawloomError, e5DrawloomError, e6DrawloomError, e7DrawloomError, e8DrawloomError⟩,
    kv_DrawloomError := vDrawloomError,
    c_BadLaunch := CBadLaunch,
    g_BadLaunch := PySem.W.mg_of X G aCBadLaunch,
    x_BadLaunch := xCBadLaunch,
    k_BadLaunch := kCBadLaunch,
    bx_BadLaunch := bCBadLaunch,
    ty_BadLaunch := tCBadLaunch,
    hd_BadLaunch := dCBadLaunch,
    me_BadLaunch := mCBadLaunch,
    ec_BadLaunch := ⟨e1BadLaunch, e2BadLaunch, bCBadLaunch, dCBadLaunch, e5BadLaunch, e6BadLaunch, e7BadLaunch, e8BadLaunch⟩,
    kv_BadLaunch := vBadLaunch,
    kk_BadLaunch_DrawloomError := kkBadLaunchDrawloomError,
    z_ValueError := PySem.W.mg_none_of X G zValueError,
    z_abs := PySem.W.mg_none_of X G zabs,
    z_all := PySem.W.mg_none_of X G zall,
    z_bool := PySem.W.mg_none_of X G zbool,
    z_int := PySem.W.mg_none_of X G zint,
    z_isinstance := PySem.W.mg_none_of X G zisinstance,
    z_len := PySem.W.mg_none_of X G zlen,
    z_list := PySem.W.mg_none_of X G zlist,
    z_range := PySem.W.mg_none_of X G zrange,
    z_tuple := PySem.W.mg_none_of X G ztuple,
    z_zip := PySem.W.mg_none_of X G zzip,
    q_LEAST := ⟨_, PySem.W.mg_of X G iLEAST, ⟨_, rfl⟩⟩,
    q_GREATEST := ⟨_, PySem.W.mg_of X G iGREATEST, ⟨_, rfl⟩⟩,
    q_MOST_BLOCKS := ⟨_, PySem.W.mg_of X G iMOST_BLOCKS, ⟨_, rfl⟩⟩,
    q_MOST_THREADS := ⟨_, PySem.W.mg_of X G iMOST_THREADS, ⟨_, rfl⟩⟩,
    q_MOST_BUFFERS := ⟨_, PySem.W.mg_of X G iMOST_BUFFERS, ⟨_, rfl⟩⟩,
    q_MOST_BUFFER_CELLS := ⟨_, PySem.W.mg_of X G iMOST_BUFFER_CELLS, ⟨_, rfl⟩⟩ }
  exact ⟨_, fun s v => .of_eq rfl, fun base _ _ => ok_law T⟩
end D5
open PySem PySem.W PyProof.Rows
set_option maxRecDepth 100000 in
set_option maxHeartbeats 0 in
theorem PySem.Challenge.cw_drawloom_k05_launches_holds : PySem.Challenge.rw_drawloom_k05_launches.Holds := by
  w_on; o_law; k_head; (case hw => w_witness2)
  k_fill
  refine L2.walk_of (l := PySem.Challenge.rw_drawloom_k05_launches) (n := 63) (k := 8) (x := "script") (CX := fun _ => L2.CX0) (sp := fun w => D5.sp_law _) rfl (by decide) rfl ⟨rfl, by decide, by decide⟩ (fun w h Y => PySem.W.kIn_of Y) ?F (fun _ _ a ns hl _ hS => ⟨a, ns, rfl, hS, hl, fun _ => rfl⟩) (fun _ _ _ _ _ h => h)
  case F =>
    intro w mg fa h KX G hmg
    refine' D5.all_mk KX G hmg ?ais_between ?lis_between ?cis_between ?kis_between ?ais_word ?lis_word ?cis_word ?kis_word ?ais_tuple ?lis_tuple ?cis_tuple ?kis_tuple ?ais_buffer ?lis_buffer ?cis_buffer ?kis_buffer ?ais_argument ?lis_argument ?cis_argument ?kis_argument ?aare_arguments ?lare_arguments ?care_arguments ?kare_arguments ?ais_launch ?lis_launch ?cis_launch ?kis_launch ?acheck_launch ?lcheck_launch ?ccheck_launch ?kcheck_launch ?alaw_stream ?llaw_stream ?claw_stream ?klaw_stream ?alaw_draw ?llaw_draw ?claw_draw ?klaw_draw ?alaw_params ?llaw_params ?claw_params ?klaw_params ?alaw_launch ?llaw_launch ?claw_launch ?klaw_launch ?alaw_given ?llaw_given ?claw_given ?klaw_given ?alaw_told ?llaw_told ?claw_told ?klaw_told ?alaw_is_number ?llaw_is_number ?claw_is_number ?klaw_is_number ?alaw_is_word ?llaw_is_word ?claw_is_word ?klaw_is_word ?alaw_is_good ?llaw_is_good ?claw_is_good ?klaw_is_good ?alaw_odd ?llaw_odd ?claw_odd ?klaw_odd ?alaw_changed ?llaw_changed ?claw_changed ?klaw_changed ?alaw ?llaw ?claw ?klaw ?aCDrawloomError ?xCDrawloomError ?kCDrawloomError ?bCDrawloomError ?tCDrawloomError ?dCDrawloomError ?mCDrawloomError ?e1DrawloomError ?e2DrawloomError ?e5DrawloomError ?e6DrawloomError ?e7DrawloomError ?e8DrawloomError ?vDrawloomError ?aCBadLaunch ?xCBadLaunch ?kCBadLaunch ?bCBadLaunch ?tCBadLaunch ?dCBadLaunch ?mCBadLaunch ?e1BadLaunch ?e2BadLaunch ?e5BadLaunch ?e6BadLaunch ?e7BadLaunch ?e8BadLaunch ?vBadLaunch ?kkBadLaunchDrawloomError ?zValueError ?zabs ?zall ?zbool ?zint ?zisinstance ?zlen ?zlist ?zrange ?ztuple ?zzip ?iLEAST ?iGREATEST ?iMOST_BLOCKS ?iMOST_THREADS ?iMOST_BUFFERS ?iMOST_BUFFER_CELLS
    (case ais_between => k_is)
    (case lis_between => k_is)
    (case cis_between => k_is)
    (case kis_between => k_is)
    (case ais_word => k_is)
    (case lis_word => k_is)
    (case cis_word => k_is)
    (case kis_word => k_is)
    (case ais_tuple => k_is)
    (case lis_tuple => k_is)
    (case cis_tuple => k_is)
    (case kis_tuple => k_is)
    (case ais_buffer => k_is)
    (case lis_buffer => k_is)
    (case cis_buffer => k_is)
    (case kis_buffer => k_is)
    (case ais_argument => k_is)
    (case lis_argument => k_is)
    (case cis_argument => k_is)
    (case kis_argument => k_is)
    (case aare_arguments => k_is)
    (case lare_arguments => k_is)
    (case care_arguments => k_is)
    (case kare_arguments => k_is)
    (case ais_launch => k_is)
    (case lis_launch => k_is)
    (case cis_launch => k_is)
    (case kis_launch => k_is)
    (case acheck_launch => k_is)
    (case lcheck_launch => k_is)
    (case ccheck_launch => k_is)
    (case kcheck_launch => k_is)
    (case alaw_stream => k_is)
    (case llaw_stream => k_is)
    (case claw_stream => k_is)
    (case klaw_stream => k_is)
    (case alaw_draw => k_is)
    (case llaw_draw => k_is)
    (case claw_draw => k_is)
    (case klaw_draw => k_is)
    (case alaw_params => k_is)
    (case llaw_params => k_is)
    (case claw_params => k_is)
    (case klaw_params => k_is)
    (case alaw_launch => k_is)
    (case llaw_launch => k_is)
    (case claw_launch => k_is)
    (case klaw_launch => k_is)
    (case alaw_given => k_is)
    (case llaw_given => k_is)
    (case claw_given => k_is)
    (case klaw_given => k_is)
    (case alaw_told => k_is)
    (case llaw_told => k_is)
    (case claw_told => k_is)
    (case klaw_told => k_is)
    (case alaw_is_number => k_is)
    (case llaw_is_number => k_is)
    (case claw_is_number => k_is)
    (case klaw_is_number => k_is)
    (case alaw_is_word => k_is)
    (case llaw_is_word => k_is)
    (case claw_is_word => k_is)
    (case klaw_is_word => k_is)
    (case alaw_is_good => k_is)
    (case llaw_is_good => k_is)
    (case claw_is_good => k_is)
    (case klaw_is_good => k_is)
    (case alaw_odd => k_is)
    (case llaw_odd => k_is)
    (case claw_odd => k_is)
    (case klaw_odd => k_is)
    (case alaw_changed => k_is)
    (case llaw_changed => k_is)
    (case claw_changed => k_is)
    (case klaw_changed => k_is)
    (case alaw => k_is)
    (case llaw => k_is)
    (case claw => k_is)
    (case klaw => k_is)
    (case aCDrawloomError => k_is)
    (case xCDrawloomError => k_exc)
    (case kCDrawloomError => k_is)
    (case bCDrawloomError => k_is)
    (case tCDrawloomError => k_is)
    (case dCDrawloomError => k_is)
    (case mCDrawloomError => k_is)
    (case e1DrawloomError => k_is)
    (case e2DrawloomError => k_is)
    (case e5DrawloomError => k_is)
    (case e6DrawloomError => k_is)
    (case e7DrawloomError => k_is)
    (case e8DrawloomError => k_is)
    (case vDrawloomError => kit_is)
    (case aCBadLaunch => k_is)
    (case xCBadLaunch => k_exc)
    (case kCBadLaunch => k_is)
    (case bCBadLaunch => k_is)
    (case tCBadLaunch => k_is)
    (case dCBadLaunch => k_is)
    (case mCBadLaunch => k_is)
    (case e1BadLaunch => k_is)
    (case e2BadLaunch => k_is)
    (case e5BadLaunch => k_is)
    (case e6BadLaunch => k_is)
    (case e7BadLaunch => k_is)
    (case e8BadLaunch => k_is)
    (case vBadLaunch => kit_is)
    (case kkBadLaunchDrawloomError => kit_is)
    (case zValueError => k_is)
    (case zabs => k_is)
    (case zall => k_is)
    (case zbool => k_is)
    (case zint => k_is)
    (case zisinstance => k_is)
    (case zlen => k_is)
    (case zlist => k_is)
    (case zrange => k_is)
    (case ztuple => k_is)
    (case zzip => k_is)
    (case iLEAST => k_is)
    (case iGREATEST => k_is)
    (case iMOST_BLOCKS => k_is)
    (case iMOST_THREADS => k_is)
    (case iMOST_BUFFERS => k_is)
    (case iMOST_BUFFER_CELLS => k_is)
#print axioms PySem.Challenge.cw_drawloom_k05_launches_holds
