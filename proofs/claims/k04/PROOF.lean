import PyProof.Rows.All
import Wide.All
import OpenK.AllK
import Wide.FinOn
import HandS.ForMost
import HandS.ForExc
import HandS.Wide
import HandS.IsInst
import HandS.More
import HandS.Codes
import HandS.Walk
import HandS.TryOnly
import HandS.Strs
import HandS.Zip
import HandS.TupAny
import HandS.TupMul
import HandS.ExcIs
import KE.RegKIsAll
import PySem.Challenge.RW_drawloom_k04_bounds_of_kernels
set_option Elab.async false
set_option linter.all false
set_option maxRecDepth 100000
/-! Kernels: what is one by the program, by the law. -/
namespace L2
open PySem PySem.Spec PyProof.Rows
/-! ### data: what a value is, whatever stands where -/
theorem Same.sqt {K : PySem.W.Frag} {H H' : Hp} {a : Addr} {xs : List V} (e : Same H H') (h : SqT K H a xs) : SqT K H' a xs := by
  rcases h with (h | ⟨o, h⟩) | h
  · exact .inl (.inl (e _ _ h))
  · exact .inl (.inr ⟨o, e _ _ h⟩)
  · exact .inr h
/-- what stands outside of M stands as before -/
def Off (M : Addr → Prop) (H H' : Hp) : Prop := ∀ b o, ¬ M b → H b = some o → H' b = some o
theorem Off.refl {M : Addr → Prop} {H : Hp} : Off M H H := fun _ _ _ h => h
theorem Off.trans {M : Addr → Prop} {H H1 H2 : Hp} (a : Off M H H1) (b : Off M H1 H2) : Off M H H2 := fun c o n h => b c o n (a c o n h)
theorem Off.of {M : Addr → Prop} {H H' : Hp} (h : Same H H') : Off M H H' := fun b o _ e => h b o e
theorem Off.mono {M N : Addr → Prop} {H H' : Hp} (h : Off M H H') (s : ∀ b, M b → N b) : Off N H H' := fun b o n e => h b o (fun m => n (s b m)) e
/-- a list, a tuple that is read and is not in M -/
def SqLM (M : Addr → Prop) (K : PySem.W.Frag) (H : Hp) (a : Addr) (xs : List V) : Prop :=
  (¬ M a ∧ Rd H a (.lst xs)) ∨ ∃ (o : Obj) (its : Array Value) (n : Nat), K.lookup a = some o ∧ o.cls = .type "list" ∧ o.dict = none ∧ o.data = .seq its n ∧ its.size ≤ sizeLine ∧ Vals xs its.toList
def SqTM (M : Addr → Prop) (K : PySem.W.Frag) (H : Hp) (a : Addr) (xs : List V) : Prop :=
  (¬ M a ∧ Rd H a (.tup xs)) ∨ ∃ (o : Obj) (its : Array Value) (n : Nat), K.lookup a = some o ∧ o.cls = .type "tuple" ∧ o.data = .seq its n ∧ its.size ≤ sizeLine ∧ Vals xs its.toList
theorem SqLM.sq {M : Addr → Prop} {K : PySem.W.Frag} {H : Hp} {a : Addr} {xs : List V} (h : SqLM M K H a xs) : SqL K H a xs := by
  rcases h with ⟨_, h⟩ | h
  · exact .inl h
  · exact .inr h
theorem SqTM.sq {M : Addr → Prop} {K : PySem.W.Frag} {H : Hp} {a : Addr} {xs : List V} (h : SqTM M K H a xs) : SqT K H a xs := by
  rcases h with ⟨_, h⟩ | h
  · exact .inl h
  · exact .inr h
theorem Rd.off {M : Addr → Prop} {H H' : Hp} {a : Addr} {u : HO} (e : Off M H H') (n : ¬ M a) (h : Rd H a u) : Rd H' a u := by
  rcases h with h | ⟨o, h⟩
  · exact .inl (e _ _ n h)
  · exact .inr ⟨o, e _ _ n h⟩
theorem Rd.some {H : Hp} {a : Addr} {u : HO} (h : Rd H a u) : H a ≠ none := by
  rcases h with h | ⟨o, h⟩ <;> rw [h] <;> intro z <;> cases z
theorem SqLM.off {M : Addr → Prop} {K : PySem.W.Frag} {H H' : Hp} {a : Addr} {xs : List V} (e : Off M H H') (h : SqLM M K H a xs) : SqLM M K H' a xs := by
  rcases h with ⟨n, h⟩ | h
  · exact .inl ⟨n, Rd.off e n h⟩
  · exact .inr h
theorem SqTM.off {M : Addr → Prop} {K : PySem.W.Frag} {H H' : Hp} {a : Addr} {xs : List V} (e : Off M H H') (h : SqTM M K H a xs) : SqTM M K H' a xs := by
  rcases h with ⟨n, h⟩ | h
  · exact .inl ⟨n, Rd.off e n h⟩
  · exact .inr h
theorem SqLM.more {M N : Addr → Prop} {K : PySem.W.Frag} {H : Hp} {a : Addr} {xs : List V} (s : ∀ b, N b → M b ∨ H b = none) (h : SqLM M K H a xs) : SqLM N K H a xs := by
  rcases h with ⟨n, h⟩ | h
  · exact .inl ⟨fun z => (s _ z).elim n h.some, h⟩
  · exact .inr h
theorem SqTM.more {M N : Addr → Prop} {K : PySem.W.Frag} {H : Hp} {a : Addr} {xs : List V} (s : ∀ b, N b → M b ∨ H b = none) (h : SqTM M K H a xs) : SqTM N K H a xs := by
  rcases h with ⟨n, h⟩ | h
  · exact .inl ⟨fun z => (s _ z).elim n h.some, h⟩
  · exact .inr h
mutual
/-- data none of whose objects is in M -/
inductive Dt (M : Addr → Prop) (K : PySem.W.Frag) (H : Hp) : V → PyData → Prop
  | non : Dt M K H .non .none
  | bl (b : Bool) : Dt M K H (.bl b) (.bool b)
  | int (i : Int) : Dt M K H (.int i) (.int i)
  | str (x : Str) : Dt M K H (.str x) (.str x)
  | lst {a : Addr} {xs : List V} {ds : List PyData} : SqLM M K H a xs → DtAll M K H xs ds → Dt M K H (.ref a) (.list ds)
  | tup {a : Addr} {xs : List V} {ds : List PyData} : SqTM M K H a xs → DtAll M K H xs ds → Dt M K H (.ref a) (.tuple ds)
inductive DtAll (M : Addr → Prop) (K : PySem.W.Frag) (H : Hp) : List V → List PyData → Prop
  | nil : DtAll M K H [] []
  | cons {v : V} {vs : List V} {d : PyData} {ds : List PyData} : Dt M K H v d → DtAll M K H vs ds → DtAll M K H (v :: vs) (d :: ds)
end
theorem SqL.off {M : Addr → Prop} {K : PySem.W.Frag} {H H' : Hp} {a : Addr} {xs : List V} (e : Off M H H') (n : ¬ M a) (h : SqL K H a xs) : SqL K H' a xs := by
  rcases h with (h | ⟨o, h⟩) | h
  · exact .inl (.inl (e _ _ n h))
  · exact .inl (.inr ⟨o, e _ _ n h⟩)
  · exact .inr h
theorem SqT.off {M : Addr → Prop} {K : PySem.W.Frag} {H H' : Hp} {a : Addr} {xs : List V} (e : Off M H H') (n : ¬ M a) (h : SqT K H a xs) : SqT K H' a xs := by
  rcases h with (h | ⟨o, h⟩) | h
  · exact .inl (.inl (e _ _ n h))
  · exact .inl (.inr ⟨o, e _ _ n h⟩)
  · exact .inr h
section
variable {M N : Addr → Prop} {K : PySem.W.Frag} {H H' : Hp}
mutual
theorem Dt.off (e : Off M H H') : ∀ {v : V} {d : PyData}, Dt M K H v d → Dt M K H' v d
  | _, _, .non => .non
  | _, _, .bl b => .bl b
  | _, _, .int i => .int i
  | _, _, .str x => .str x
  | _, _, .lst h r => .lst (h.off e) (DtAll.off e r)
  | _, _, .tup h r => .tup (h.off e) (DtAll.off e r)
theorem DtAll.off (e : Off M H H') : ∀ {vs : List V} {ds : List PyData}, DtAll M K H vs ds → DtAll M K H' vs ds
  | _, _, .nil => .nil
  | _, _, .cons h r => .cons (Dt.off e h) (DtAll.off e r)
end
mutual
theorem Dt.more (s : ∀ b, N b → M b ∨ H b = none) : ∀ {v : V} {d : PyData}, Dt M K H v d → Dt N K H v d
  | _, _, .non => .non
  | _, _, .bl b => .bl b
  | _, _, .int i => .int i
  | _, _, .str x => .str x
  | _, _, .lst h r => .lst (h.more s) (DtAll.more s r)
  | _, _, .tup h r => .tup (h.more s) (DtAll.more s r)
theorem DtAll.more (s : ∀ b, N b → M b ∨ H b = none) : ∀ {vs : List V} {ds : List PyData}, DtAll M K H vs ds → DtAll N K H vs ds
  | _, _, .nil => .nil
  | _, _, .cons h r => .cons (Dt.more s h) (DtAll.more s r)
end
mutual
theorem Dt.dp : ∀ {v : V} {d : PyData}, Dt M K H v d → Dp K H v d
  | _, _, .non => .non
  | _, _, .bl b => .bl b
  | _, _, .int i => .int i
  | _, _, .str x => .str x
  | _, _, .lst h r => .lst h.sq (DtAll.dp r)
  | _, _, .tup h r => .tup h.sq (DtAll.dp r)
theorem DtAll.dp : ∀ {vs : List V} {ds : List PyData}, DtAll M K H vs ds → DpAll K H vs ds
  | _, _, .nil => .nil
  | _, _, .cons h r => .cons (Dt.dp h) (DtAll.dp r)
end
mutual
theorem Dp.same (e : Same H H') : ∀ {v : V} {d : PyData}, Dp K H v d → Dp K H' v d
  | _, _, .non => .non
  | _, _, .bl b => .bl b
  | _, _, .int i => .int i
  | _, _, .str x => .str x
  | _, _, .lst h r => .lst (e.seq h) (DpAll.same e r)
  | _, _, .tup h r => .tup (Same.sqt e h) (DpAll.same e r)
theorem DpAll.same (e : Same H H') : ∀ {vs : List V} {ds : List PyData}, DpAll K H vs ds → DpAll K H' vs ds
  | _, _, .nil => .nil
  | _, _, .cons h r => .cons (Dp.same e h) (DpAll.same e r)
end
theorem DpAll.len : ∀ {vs : List V} {ds : List PyData}, DpAll K H vs ds → vs.length = ds.length
  | _, _, .nil => rfl
  | _, _, .cons _ r => congrArg (· + 1) (DpAll.len r)
theorem DtAll.len {vs : List V} {ds : List PyData} (h : DtAll M K H vs ds) : vs.length = ds.length := DpAll.len (DtAll.dp h)
theorem DpAll.get : ∀ {vs : List V} {ds : List PyData} {i : Nat} {v : V}, DpAll K H vs ds → vs[i]? = some v → ∃ d, ds[i]? = some d ∧ Dp K H v d
  | _, _, _, _, .nil, e => by simp at e
  | _, _, 0, _, .cons h _, e => ⟨_, rfl, by cases e; exact h⟩
  | _, _, i + 1, _, .cons _ r, e => DpAll.get (i := i) r e
theorem DpAll.at : ∀ {vs : List V} {ds : List PyData} {i : Nat} {d : PyData}, DpAll K H vs ds → ds[i]? = some d → ∃ v, vs[i]? = some v ∧ Dp K H v d
  | _, _, _, _, .nil, e => by simp at e
  | _, _, 0, _, .cons h _, e => ⟨_, rfl, by cases e; exact h⟩
  | _, _, i + 1, _, .cons _ r, e => DpAll.at (i := i) r e
theorem DtAll.get : ∀ {vs : List V} {ds : List PyData} {i : Nat} {v : V}, DtAll M K H vs ds → vs[i]? = some v → ∃ d, ds[i]? = some d ∧ Dt M K H v d
  | _, _, _, _, .nil, e => by simp at e
  | _, _, 0, _, .cons h _, e => ⟨_, rfl, by cases e; exact h⟩
  | _, _, i + 1, _, .cons _ r, e => DtAll.get (i := i) r e
theorem DtAll.at : ∀ {vs : List V} {ds : List PyData} {i : Nat} {d : PyData}, DtAll M K H vs ds → ds[i]? = some d → ∃ v, vs[i]? = some v ∧ Dt M K H v d
  | _, _, _, _, .nil, e => by simp at e
  | _, _, 0, _, .cons h _, e => ⟨_, rfl, by cases e; exact h⟩
  | _, _, i + 1, _, .cons _ r, e => DtAll.at (i := i) r e
theorem DtAll.app : ∀ {vs us : List V} {ds es : List PyData}, DtAll M K H vs ds → DtAll M K H us es → DtAll M K H (vs ++ us) (ds ++ es)
  | _, _, _, _, .nil, h => h
  | _, _, _, _, .cons h r, q => .cons h (DtAll.app r q)
theorem DtAll.take : ∀ {vs : List V} {ds : List PyData} (n : Nat), DtAll M K H vs ds → DtAll M K H (vs.take n) (ds.take n)
  | _, _, 0, _ => .nil
  | _, _, _ + 1, .nil => .nil
  | _, _, n + 1, .cons h r => .cons h (DtAll.take n r)
theorem DtAll.drop : ∀ {vs : List V} {ds : List PyData} (n : Nat), DtAll M K H vs ds → DtAll M K H (vs.drop n) (ds.drop n)
  | _, _, 0, h => h
  | _, _, _ + 1, .nil => .nil
  | _, _, n + 1, .cons _ r => DtAll.drop n r
theorem DtAll.rep {v : V} {d : PyData} (h : Dt M K H v d) : ∀ n : Nat, DtAll M K H (List.replicate n v) (List.replicate n d)
  | 0 => .nil
  | n + 1 => .cons h (DtAll.rep h n)
/-- a tuple that was just laid -/
theorem Dt.laid {a : Addr} {xs : List V} {ds : List PyData} (n : ¬ M a) (h : H a = some (.tup xs)) (r : DtAll M K H xs ds) : Dt M K H (.ref a) (.tuple ds) := .tup (.inl ⟨n, .inl h⟩) r
theorem Dt.laidL {a : Addr} {xs : List V} {ds : List PyData} (n : ¬ M a) (h : H a = some (.lst xs)) (r : DtAll M K H xs ds) : Dt M K H (.ref a) (.list ds) := .lst (.inl ⟨n, .inl h⟩) r
theorem DtAll.ints : ∀ xs : List Int, DtAll M K H (xs.map V.int) (xs.map PyData.int)
  | [] => .nil
  | x :: r => .cons (.int x) (DtAll.ints r)
/-- a type's name -/
def tyN : PyData → String
  | .none => "NoneType"
  | .bool _ => "bool"
  | .int _ => "int"
  | .str _ => "str"
  | .list _ => "list"
  | .tuple _ => "tuple"
  | .dict _ => "dict"
theorem Dp.tyx : ∀ {v : V} {d : PyData}, Dp K H v d → TyX K H v (.type (tyN d))
  | _, _, .non => .base .non
  | _, _, .bl b => .base (.bl b)
  | _, _, .int i => .base (.int i)
  | _, _, .str x => .base (.str x)
  | _, _, .lst (.inl (.inl h)) _ => .base (.lst h)
  | _, _, .lst (.inl (.inr ⟨_, h⟩)) _ => .base (.frz h)
  | _, _, .lst (.inr ⟨_, _, _, h, c, _⟩) _ => .kList h c
  | _, _, .tup (.inl (.inl h)) _ => .base (.tup h)
  | _, _, .tup (.inl (.inr ⟨_, h⟩)) _ => .fTuple h
  | _, _, .tup (.inr ⟨_, _, _, h, c, _⟩) _ => .kTuple h c
end
def isTup : PyData → Bool
  | .tuple _ => true
  | _ => false
def isStr : PyData → Bool
  | .str _ => true
  | _ => false
def isBool : PyData → Bool
  | .bool _ => true
  | _ => false
def isInt : PyData → Bool
  | .bool _ | .int _ => true
  | _ => false
theorem kit_tup {K : PySem.W.Frag} (d : PyData) : PySem.W.kitOne K (.type (tyN d)) (.type "tuple") = some (isTup d) := by
  cases d <;> exact kit_ty (by kernel_rfl)
theorem kit_int {K : PySem.W.Frag} (d : PyData) : PySem.W.kitOne K (.type (tyN d)) (.type "int") = some (isInt d) := by
  cases d <;> exact kit_ty (by kernel_rfl)
theorem kit_bool {K : PySem.W.Frag} (d : PyData) : PySem.W.kitOne K (.type (tyN d)) (.type "bool") = some (isBool d) := by
  cases d <;> exact kit_ty (by kernel_rfl)
theorem kit_str {K : PySem.W.Frag} (d : PyData) : PySem.W.kitOne K (.type (tyN d)) (.type "str") = some (isStr d) := by
  cases d <;> exact kit_ty (by kernel_rfl)
end L2
namespace L2
open PySem PySem.Spec PyProof.Rows
/-! ### written tables: a dict of texts to tuples of texts -/
def KTup (K : PySem.W.Frag) (p : Addr) (xs : List V) : Prop := ∃ (o : Obj) (its : Array Value) (n : Nat), K.lookup p = some o ∧ o.cls = .type "tuple" ∧ o.data = .seq its n ∧ its.size ≤ sizeLine ∧ Vals xs its.toList
def KRows : List DictEntry → List (Str × V) → Prop
  | [], [] => True
  | e :: r, p :: q => (∃ t, e.key = .str p.1 t) ∧ RelV p.2 e.val ∧ KRows r q
  | _, _ => False
def KTab (K : PySem.W.Frag) (w : World) (a : Addr) (ps : List (Str × V)) : Prop := ∃ (es : Array DictEntry) (n : Nat), K.lookup a = some ⟨.type "dict", none, .dict es n, #[]⟩ ∧ PySem.W.KeysLit w.params es.toList ∧ (a == sysModules) = false ∧ KRows es.toList ps
def tabGet : List (Str × V) → Str → Option V
  | [], _ => none
  | p :: r, z => if p.1 = z then some p.2 else tabGet r z
theorem tabGet_rows : ∀ {es : List DictEntry} {ps : List (Str × V)} (z : Str), KRows es ps →
    (∃ e v, es.find? (fun e => e.key.isStr z) = some e ∧ tabGet ps z = some v ∧ RelV v e.val) ∨ (es.find? (fun e => e.key.isStr z) = none ∧ tabGet ps z = none ∧ es.any (fun e => e.refKey) = false)
  | [], [], _, _ => .inr ⟨rfl, rfl, rfl⟩
  | e :: r, p :: q, z, ⟨⟨t, hk⟩, hv, hr⟩ => by
    by_cases hz : p.1 = z
    · refine .inl ⟨e, p.2, ?_, ?_, hv⟩
      · rw [List.find?_cons_of_pos]
        rw [hk, hz]
        simp [Value.isStr]
      · unfold tabGet
        rw [if_pos hz]
    · have h1 : ((fun e : DictEntry => e.key.isStr z) e) = false := by
        show e.key.isStr z = false
        rw [hk]
        simp [Value.isStr, hz]
      have h2 : tabGet (p :: q) z = tabGet q z := by
        show (if p.1 = z then some p.2 else tabGet q z) = _
        rw [if_neg hz]
      have h3 : e.refKey = false := by unfold DictEntry.refKey; rw [hk]
      have h4 : (e :: r).find? (fun e => e.key.isStr z) = r.find? (fun e => e.key.isStr z) := List.find?_cons_of_neg (p := fun e : DictEntry => e.key.isStr z) (fun q => Bool.false_ne_true (h1.symm.trans q))
      rw [h4, h2, List.any_cons, h3, Bool.false_or]
      exact tabGet_rows z hr
  | [], _ :: _, _, h => h.elim
  | _ :: _, [], _, h => h.elim
def tKGet (K : PySem.W.Frag) (w : World) (td ty : TE) : TE := fun σ H Q => td σ H fun x H1 => ∃ a ps, x = .ref a ∧ KTab K w a ps ∧ ty σ H1 fun y H2 => ∃ z, y = .str z ∧ Q ((tabGet ps z).getD .non) H2
section
variable {X : Cx} {o e f : Expr} {apos cpos : Pos} {td ty tx : TE}
theorem pe_kget1 (ho : PE X o td) (he : PE X e ty) (m : M1 X o "get" apos e cpos) : PE X (.Call (.Attribute o "get" apos) [e] [] cpos) (tKGet X.K X.w td ty) := by
  refine ⟨fun pins s σ H Q I h => ?_⟩
  refine wpAny_Call_method m.base m.few m.line PySem.F.plainAttrs_dict PySem.F.slot_dict_get PySem.F.type_dict_get (thn (ho.run pins s σ H _ I h) fun u s1 ⟨x, H1, I1, rx, a, ps, ex, ⟨es, n, hl, hk, hd, hrw⟩, q1⟩ => ?_)
  subst ex
  obtain rfl : u = Value.ref a := rx
  have t1 := (PySem.W.mapOf_K (prog := X.prog) (w := X.w) I1.kIn hl hk).typeIs
  refine ⟨t1, fun b hb => by cases hb; exact ⟨_, I1.kIn _ _ hl, rfl⟩, ?_⟩
  rw [m.trees]
  refine Calls.callWith_builtin rfl (Calls.evalArgs_plain (Calls.spliced_cons (thn (he.run pins s1 σ H1 _ I1 q1) fun iv s2 ⟨y, H2, I2, ry, z, ez, q2⟩ => Calls.spliced_nil ?_)))
  subst ez
  obtain ⟨t, rfl⟩ := ry
  have hm := PySem.W.mapOf_K (prog := X.prog) (w := X.w) I2.kIn hl hk
  refine call_meetsIn PySem.F.slot_dict_get hm.typeIs PySem.F.entry_dict_get (PySem.F.args_dict_get_2 _ _) (meets_dict_get (strKind X.prog X.w) a (PySem.strKind_is X.prog X.w z t) hd) ⟨_, hm, ?_⟩
  rcases tabGet_rows z hrw with ⟨en, v, h1, h2, h3⟩ | ⟨h1, h2, h3⟩
  · have ns : PySem.W.nsIn X.K a z = some (some en.val) := by
      unfold PySem.W.nsIn
      rw [hl]
      dsimp only
      rw [h1]
    rw [PySem.W.find_K hl ns]
    rw [h2] at q2
    exact ⟨v, H2, I2.tok _, h3, q2⟩
  · have ns : PySem.W.nsIn X.K a z = some none := by
      unfold PySem.W.nsIn
      rw [hl]
      dsimp only
      rw [h1]
      dsimp only
      rw [h3]
      rfl
    rw [PySem.W.find_K hl ns]
    rw [h2] at q2
    exact ⟨.non, H2, I2.tok _, rfl, q2⟩
end
end L2
namespace TX
open PySem PySem.Spec PyProof.Rows
/-! ### set(xs), xs a list of texts -/
/-- how many texts stand first in xs up to i -/
def nd (xs : List Str) : Nat → Nat
  | 0 => 0
  | i + 1 => if (xs.take i).any (· == xs.getD i Str.empty) = true then nd xs i else nd xs i + 1
def upTo (xs : List Str) (i : Nat) : Str → Bool := fun z => (xs.take i).any (· == z)
theorem nd_le (xs : List Str) : ∀ i, nd xs i ≤ i
  | 0 => Nat.le_refl _
  | i + 1 => by
    have := nd_le xs i
    unfold nd
    split <;> omega
theorem upTo_step (xs : List Str) (i : Nat) (hi : i < xs.length) (z : Str) : (upTo xs i z || decide (z = xs.getD i Str.empty)) = upTo xs (i + 1) z := by
  have e : xs[i]? = some (xs.getD i Str.empty) := by rw [List.getD_eq_getElem?_getD, List.getElem?_eq_getElem hi]; rfl
  unfold upTo
  rw [List.take_add_one, e, List.any_append]
  show _ = (_ || ((xs.getD i Str.empty == z) || false))
  rw [Bool.or_false]
  congr 1
  by_cases h : z = xs.getD i Str.empty
  · rw [decide_eq_true h, ← h, beq_self_eq_true]
  · rw [decide_eq_false h, beq_eq_false_iff_ne.mpr (Ne.symm h)]
def nob (led : Bool) : Obj := { cls := .type "set", dict := none, data := .set #[] 0 (.fresh 0 0 led) }
section
variable {prog : Program} {w : World} {A : Around} {R : Result → Shared → Prop} {I : Addr} {fp wr : List Addr} {G : Array GenState → Array GenState → Prop} {n : Nat} {P : Nat → Value → Prop} {St : Nat → Shared → Prop}
theorem loop (W : WalksS prog w A.in1 I fp wr G n P St) (S : Addr) (hSf : S ∉ fp) (xs : List Str) (hxn : xs.length = n) (hv : ∀ i v, P i v → ∃ t, v = .str (xs.getD i Str.empty) t) (hroom : n + 1 < scanBound) :
    ∀ (k i : Nat) (s : Shared), n - i = k → i ≤ n → St i s → s.heap.SetOf (PySem.strKind prog w) S (upTo xs i) (nd xs i) →
      (∀ s', Moved (S :: wr) G s s' → s'.heap.SetOf (PySem.strKind prog w) S (upTo xs n) (nd xs n) → R (.ok (.ret .none)) s') →
      codeAny (model prog w) A (.builtin "set.update.loop" ⟨[.ref S, .ref I], []⟩) R s
  | 0, i, s, hk, hi, hst, hS, hR => by
    obtain rfl : i = n := by omega
    refine codeAny_builtin PyProof.Rows.F.entry_set_update_loop (by
      rw [Around.under_plainId PyProof.Rows.F.plain_set_update_loop _]
      refine (show wpAny (model prog w) A.in1 (pyNext (.ref I) >>= _) _ _ s from wpAny_bind (W.done s _ _ hst fun s' hm => ?_))
      obtain ⟨o, es, ep, t, ho, rest⟩ := hS
      exact wpAny_pure (hR s' (hm.mono fun b hb => .tail _ hb) ⟨o, es, ep, t, hm.heap S _ (fun z => hSf (W.sub _ z)) ho, rest⟩))
  | k + 1, i, s, hk, hi, hst, hS, hR => by
    have hlt : i < n := by omega
    refine codeAny_builtin PyProof.Rows.F.entry_set_update_loop (by
      rw [Around.under_plainId PyProof.Rows.F.plain_set_update_loop _]
      refine (show wpAny (model prog w) A.in1 (pyNext (.ref I) >>= _) _ _ s from wpAny_bind (W.item i s _ _ hlt hst fun v s' hP hst' hm => ?_))
      obtain ⟨t, rfl⟩ := hv i v hP
      obtain ⟨o, es, ep, tb, ho, rest⟩ := hS
      have h1 : s'.heap.SetOf (PySem.strKind prog w) S (upTo xs i) (nd xs i) := ⟨o, es, ep, tb, hm.heap S _ (fun z => hSf (W.sub _ z)) ho, rest⟩
      refine (show wpAny _ A.in1 (holding [Value.str (xs.getD i Str.empty) t] (setAdd S (.str (xs.getD i Str.empty) t)) >>= _) _ _ s' from wpAny_bind (wpAny_holding ?_))
      unfold setAdd
      refine wpAny_holding (wpAny_bind ((PySem.strKind prog w).pyHash (k := xs.getD i Str.empty) (strKind_is _ _ _ _) ?_))
      have hle := nd_le xs i
      refine wpAny_setAddHashed_of (knd := PySem.strKind prog w) (s := { s' with toks := s'.toks + 1 }) (strKind_is _ _ _ _) rfl h1 (by omega) fun h' hsb hS2 => ?_
      have h2 : h'.SetOf (PySem.strKind prog w) S (upTo xs (i + 1)) (nd xs (i + 1)) := SetOf_congr hS2 (upTo_step xs i (by omega)) rfl
      refine wpAny_pure ⟨plainId_quiet PyProof.Rows.F.plain_set_update_loop _, loop W S hSf xs hxn hv hroom k (i + 1) _ (by omega) hlt (W.frame _ s' _ _ hst' (Nat.le_succ _) fun b hb o e => ?_) h2 fun s2 hm2 hS3 => hR s2 (Moved.trans W.gtrans ((hm.mono fun b hb => .tail _ hb).then_heap (Nat.le_succ _) fun b o hb e => ?_) hm2) hS3⟩
      · exact (hsb.2 b (fun z : b = S => hSf (z ▸ hb))).trans e
      · exact (hsb.2 b (fun z : b = S => hb (z ▸ .head _))).trans e)
end
section
variable {prog : Program} {w : World} {A : Around} {E : Value → Shared → Prop} {s : Shared}
theorem old2 {h : Heap} {X Y o : Obj} {b : Addr} (e : h.get? b = some o) : ((h.push X).push Y).get? b = some o := Heap.get?_push_of_some _ (Heap.get?_push_of_some _ e)
set_option maxHeartbeats 3200000 in
theorem init_list {l : Addr} {items : Array Value} {xs : List Str} (led : Bool) (hh : A.handled = none) (hl : s.heap.IsList l items) (hi : StrsAre items.toList xs) (hroom : items.size + 1 < scanBound) :
    codeAny (model prog w) A (.call (.builtin "set.__init__") ⟨[.ref s.heap.objs.size, .ref l], []⟩) (wants (fun v s2 => v = .none ∧ ∃ h' tk, s2 = { s with heap := h', toks := tk } ∧ h'.SetOf (PySem.strKind prog w) s.heap.objs.size (upTo xs items.size) (nd xs items.size) ∧
      ∀ b o, b < s.heap.objs.size → s.heap.get? b = some o → h'.get? b = some o) E) { s with heap := s.heap.push (nob led) } := by
  have hS : (s.heap.push (nob led)).get? s.heap.objs.size = some (nob led) := Heap.get?_push_size _ rfl
  have hT : Shared.TypeIs { s with heap := s.heap.push (nob led) } (.ref s.heap.objs.size) "set" := ⟨nob led, hS, rfl⟩
  refine codeAny_call_builtin PySem.F.called_set.init.plain PySem.F.entry_set_init (check_set_init_1 hT ?_)
  have hlS : l < s.heap.objs.size := by
    obtain ⟨ol, hol, _⟩ := hl
    exact Heap.lt_size hol
  have hl1 : (s.heap.push (nob led)).IsList l items := hl.push _
  obtain ⟨⟨ocls, odict, odata, oslots⟩, hol, hcl, nl, hdl⟩ := hl
  dsimp only at hcl hdl
  subst hcl hdl
  have hol2 : (s.heap.push (nob led)).get? l = some { cls := .type "list", dict := odict, data := .seq items nl, slots := oslots } := Heap.get?_push_of_some _ hol
  have hsls := PySem.F.sub_list_set; have hslf := PySem.F.sub_list_frozenset; have hne : (Value.type "list" == Value.type "dict") = false := by decide
  unfold Builtin.«set.__init__» noKeywords Builtin.Frozenset.updateFrom
  generalize hPI : pyIter = PI
  wp_walk
  subst hPI
  have hsz : xs.length = items.size := by rw [← StrsAre.len_eq hi, Array.length_toList]
  have hz : (s.heap.push (nob led)).objs.size = s.heap.objs.size + 1 := Heap.size_push _ _
  have nI : l ≠ (s.heap.push (nob led)).objs.size := by rw [hz]; exact Nat.ne_of_lt (Nat.lt_succ_of_lt hlS)
  have nS : s.heap.objs.size ∉ [(s.heap.push (nob led)).objs.size, l] := by
    rw [hz]
    intro m
    rcases List.mem_cons.mp m with m | m
    · exact Nat.ne_of_lt (Nat.lt_succ_self _) m
    · exact Nat.ne_of_gt hlS (List.mem_singleton.mp m)
  refine wpAny_pyIter_list hl1 (wpAny_bind (wpAny_runValue ?_))
  refine loop ((Walks.list (by simp [hh]) _ l nI items).toS) s.heap.objs.size nS xs hsz (fun i v hv => SS.strs_at hi i v (by rw [Array.getElem?_toList]; exact hv)) hroom (items.size - 0) 0 _ (by omega) (Nat.zero_le _)
    ⟨⟨_, Heap.get?_push_size _ rfl, rfl, rfl⟩, (hl1.push _)⟩ (SetOf_congr ((setObjOf_fresh (knd := PySem.strKind prog w) led).setOf (Heap.get?_push_of_some _ hS) (by unfold scanBound; omega)) (fun _ => rfl) rfl) ?_
  rintro ⟨h', g', d', tk', os'⟩ hm hS2
  cases (show g' = s.gens from hm.gens)
  cases (show d' = s.drawn from hm.drawn)
  cases (show os' = s.os from hm.os)
  refine (show wpAny _ _ _ _ _ _ from wpAny_pure (show wpAny _ _ (ret Value.none) _ _ _ from wpAny_pure ⟨rfl, h', tk', rfl, hS2, fun b o hb e => hm.heap b o ?_ (old2 e)⟩))
  rw [hz]
  intro m
  rcases List.mem_cons.mp m with m | m
  · exact Nat.ne_of_lt hb m
  · exact Nat.ne_of_lt (Nat.lt_succ_of_lt hb) (List.mem_singleton.mp m)
set_option maxHeartbeats 3200000 in
theorem call_set {l : Addr} {items : Array Value} {xs : List Str} {Q : Value → Shared → Prop} (hh : A.handled = none) (hl : s.heap.IsList l items) (hi : StrsAre items.toList xs) (hroom : items.size + 1 < scanBound)
    (h : ∀ (h' : Heap) (tk : Nat), h'.SetOf (PySem.strKind prog w) s.heap.objs.size (upTo xs items.size) (nd xs items.size) → (∀ b o, b < s.heap.objs.size → s.heap.get? b = some o → h'.get? b = some o) → Q (.ref s.heap.objs.size) { s with heap := h', toks := tk }) :
    wpAny (model prog w) A (call (.type "set") [.ref l]) Q E s := by
  obtain ⟨c, tl, hmro⟩ := PySem.F.called_set.mro
  have hmade := PySem.F.called_set.made; have hsub := PySem.F.called_set.sub
  refine wpAny_call (codeAny_of_tree (show wpAny _ _ (callAny (.type "set") _) _ _ _ from wpAny_pure ⟨Code.quiet_builtin _ (by decide +kernel), codeAny_builtin PySem.F.entry_type_call ?_⟩))
  rw [Around.under_plain (weight_type_call_type "set" [.ref l] []) rfl]
  have h1 := PySem.F.called_set.notType; have h2 := PySem.F.called_set.canCreate; have hct := PySem.F.typeCall_set_1 (.ref l)
  repeat (any_goals (first | assumption | wp_step))
  refine codeAny_mono (code_set_new_1 (.ref l) (E := E) (Q₁ := fun v s1 => ∃ led : Bool, v = .ref s.heap.objs.size ∧ s1 = { s with heap := s.heap.push (nob led) }) fun led => ⟨led, rfl, rfl⟩) fun r s1 hr => ?_
  match r, hr with
  | .error e, hr => exact hr
  | .ok .next, hr => exact hr.elim
  | .ok .brk, hr => exact hr.elim
  | .ok .cont, hr => exact hr.elim
  | .ok (.ret v), ⟨led, hv, hs1⟩ =>
    subst hv hs1
    have hT : Shared.TypeIs { s with heap := s.heap.push (nob led) } (.ref s.heap.objs.size) "set" := ⟨nob led, Heap.get?_push_size _ rfl, rfl⟩
    have hli := PySem.F.called_set.init.lookup; have hbi := PySem.F.called_set.init.bind (.ref s.heap.objs.size)
    repeat (any_goals (first | assumption | wp_step))
    refine codeAny_mono (init_list (E := E) led (A := A.in1) (by simp [hh]) hl hi hroom) fun r2 s2 hr2 => ?_
    match r2, hr2 with
    | .error e, hr2 => exact hr2
    | .ok .next, hr2 => exact hr2.elim
    | .ok .brk, hr2 => exact hr2.elim
    | .ok .cont, hr2 => exact hr2.elim
    | .ok (.ret v2), ⟨hv2, h', tk, hs2, hS2, hk2⟩ =>
      subst hv2 hs2
      repeat (any_goals (first | assumption | wp_step))
      exact h _ _ hS2 hk2
end
end TX
namespace L2
open PySem PySem.Spec PyProof.Rows
/-- len(set(xs)), xs a list of texts -/
def tLenTx (K : PySem.W.Frag) (ta : TE) : TE := fun σ H Q => ta σ H fun x H1 => ∃ l, ∃ xs : List Str, x = .ref l ∧ SqL K H1 l (xs.map V.str) ∧ xs.length ≤ 1000 ∧ Q (.int (TX.nd xs xs.length)) H1
theorem pe_lenTx {X : Cx} {a : Expr} {ta : TE} {p p2 q pos : Pos} (hg : Gl X "len") (hm : X.mg "len" = none) (hg2 : Gl X "set") (hm2 : X.mg "set" = none) (ha : PE X a ta) (hc : X.calm = true := by rfl)
    (na : starEach [a] X.env = (false, eval a X.env) :: starEach [] X.env := by rfl) : PE X (.Call (.Name "len" p) [.Call (.Name "set" p2) [a] [] q] [] pos) (tLenTx X.K ta) := by
  refine ⟨fun pins s σ H Q I h => Call_ (ld_blt I hg hm boot_len (PyProof.Rows.callWith_builtin1 (PyProof.Rows.args_cons (Call_ (ld_blt I hg2 hm2 boot_set (PyProof.Rows.callWith_type1 (PyProof.Rows.args_cons (thn (ha.run pins s σ H _ I h) fun v s1 ⟨x, H1, I1, r1, l, xs, ex, hq, hl, q1⟩ => PyProof.Rows.args_nil ?_) na) na rfl))) rfl) rfl rfl))⟩
  subst ex
  cases r1
  obtain ⟨its, r, pl, hz⟩ := I1.list hq
  have e : its.toArray.size = xs.length := by rw [List.size_toArray, ← r.length, List.length_map]
  refine TX.call_set (I1.ok.hd hc) pl.isList (by simpa using strsAre_of r) (by rw [e]; unfold scanBound; omega) fun h' tk hS hk => PyProof.Rows.args_nil ?_
  rw [e] at hS
  have nle := TX.nd_le xs xs.length
  obtain ⟨o, es, ep, t, ho, hex, hd, _, _, _, hf, hn⟩ := hS
  have I2 : Inv X pins σ H1 { s1 with heap := h', toks := tk } := I1.kept fun b o z => hk b o (Heap.lt_size z) z
  exact call_len_set ho hex hd hf (by rw [hn]; omega) ⟨.int (TX.nd xs xs.length), H1, I2.tok _, ⟨_, by rw [hn]⟩, q1⟩
end L2
namespace L2
open PySem PySem.Spec PyProof.Rows
/-! ### x in a tuple of data -/
def rInT (K : PySem.W.Frag) : R2 := fun x y H Q => ∃ d ds, Dp K H x d ∧ Dp K H y (.tuple ds) ∧ d.canLay0 = true ∧ PyData.canLayAll0 ds = true ∧ PyData.depthAll ds ≤ 60 ∧ Q (.bl (ds.any fun z => PyData.eqv z d)) H
theorem op_inT {X : Cx} (hu : X.A.units + 64 < cLine) : OpR X (compareOp .In) (rInT X.K) := by
  intro pins s σ H x y v u Q I rx ry h
  obtain ⟨d, ds, hd, he, sd, se, hdp, q⟩ := h
  obtain ⟨as, r1⟩ := Dp.reads I d x v hd rx
  obtain ⟨bs, r2⟩ := Dp.reads I (.tuple ds) y u he ry
  have h1 : min (PyData.depthAll ds) d.depth ≤ PyData.depthAll ds := Nat.min_le_left _ _
  exact SeqAt.in_tuple_reads r2 r1 se sd (by omega) ⟨.bl _, H, I, rfl, q⟩
theorem DpAll.strs {K : PySem.W.Frag} {H : Hp} : ∀ xs : List Str, DpAll K H (xs.map V.str) (xs.map PyData.str)
  | [] => .nil
  | x :: r => .cons (.str x) (DpAll.strs r)
theorem depth_strs : ∀ xs : List Str, PyData.depthAll (xs.map PyData.str) = 0
  | [] => rfl
  | x :: r => by
    rw [List.map_cons]
    show max (PyData.depth (.str x)) (PyData.depthAll (r.map PyData.str)) = 0
    rw [depth_strs r]
    rfl
def oneOf (xs : List Str) : PyData → Bool
  | .str x => xs.any (· == x)
  | _ => false
theorem any_strs (xs : List Str) (d : PyData) : ((xs.map PyData.str).any fun z => PyData.eqv z d) = oneOf xs d := by
  induction xs with
  | nil => cases d <;> rfl
  | cons x r ih =>
    rw [List.map_cons, List.any_cons, ih]
    cases d <;> rfl
theorem rInT_strs {K : PySem.W.Frag} {x y : V} {H : Hp} {Q : VK} {d : PyData} (xs : List Str) (hd : Dp K H x d) (hy : Dp K H y (.tuple (xs.map PyData.str))) (sd : d.canLay0 = true) (sx : PyData.canLayAll0 (xs.map PyData.str) = true)
    (q : Q (.bl (oneOf xs d)) H) : rInT K x y H Q := ⟨d, _, hd, hy, sd, sx, by rw [depth_strs]; exact Nat.zero_le _, by rw [any_strs]; exact q⟩
mutual
/-- data without dicts whose texts are short -/
def fine : PyData → Bool
  | .none | .bool _ | .int _ => true
  | .str x => PyData.canLay0 (.str x) && decide (x.length ≤ sizeLine)
  | .list xs => fineAll xs
  | .tuple xs => fineAll xs
  | .dict _ => false
def fineAll : List PyData → Bool
  | [] => true
  | x :: r => fine x && fineAll r
end
mutual
theorem fine_lay : ∀ d : PyData, fine d = true → d.canLay0 = true
  | .none, _ => rfl
  | .bool _, _ => rfl
  | .int _, _ => rfl
  | .str x, h => by unfold fine at h; exact (Bool.and_eq_true_iff.mp h).1
  | .list xs, h => by unfold fine at h; unfold PyData.canLay0; exact fineAll_lay xs h
  | .tuple xs, h => by unfold fine at h; unfold PyData.canLay0; exact fineAll_lay xs h
  | .dict _, h => by unfold fine at h; cases h
theorem fineAll_lay : ∀ ds : List PyData, fineAll ds = true → PyData.canLayAll0 ds = true
  | [], _ => rfl
  | x :: r, h => by
    unfold fineAll at h
    rw [Bool.and_eq_true] at h
    unfold PyData.canLayAll0
    rw [fine_lay x h.1, fineAll_lay r h.2]
    rfl
end
theorem fineAll_mem : ∀ {ds : List PyData} {d : PyData}, fineAll ds = true → d ∈ ds → fine d = true
  | x :: r, d, h, m => by
    unfold fineAll at h
    rw [Bool.and_eq_true] at h
    cases m with
    | head => exact h.1
    | tail _ m => exact fineAll_mem h.2 m
theorem fine_tup {ds : List PyData} (h : fine (.tuple ds) = true) : fineAll ds = true := by unfold fine at h; exact h
theorem fine_len {x : Str} (h : fine (.str x) = true) : x.length ≤ sizeLine := by
  unfold fine at h
  exact of_decide_eq_true (Bool.and_eq_true_iff.mp h).2
end L2
set_option maxHeartbeats 4000000
namespace L2
open PySem PySem.Spec PyProof.Rows
theorem tuple_mul1 (l : Addr) (items : Array Value) (n : Nat) (dd : Option Addr) (sl : Array (Option Value)) (u : Tok) :
    Meets (Builtin.«tuple.__mul__» ⟨[.ref l, .int 1 u], []⟩) (fun _ R s => s.heap.get? l = some { cls := .type "tuple", dict := dd, data := .seq items n, slots := sl } ∧
      R (.ok (.ret (Value.ref l))) s) :=
  .of_wp fun prog w A R s h => by
    obtain ⟨hp, g, d, tk, os⟩ := s
    obtain ⟨hl, h⟩ := h
    have f1 := AutoSeq1.idx_int
    wp_walk using wpAny_loadPart' hl
    exact ⟨_, rfl, h⟩
theorem tuple_mul0 (l : Addr) (items : Array Value) (n : Nat) (dd : Option Addr) (sl : Array (Option Value)) (u : Tok) (hne : items.isEmpty = false) :
    Meets (Builtin.«tuple.__mul__» ⟨[.ref l, .int 0 u], []⟩) (fun _ R s => s.heap.get? l = some { cls := .type "tuple", dict := dd, data := .seq items n, slots := sl } ∧
      R (.ok (.ret (Value.ref s.heap.objs.size))) { s with heap := s.heap.push { cls := Value.type "tuple", data := Data.seq #[] }, toks := s.toks }) :=
  .of_wp fun prog w A R s h => by
    obtain ⟨hp, g, d, tk, os⟩ := s
    obtain ⟨hl, h⟩ := h
    have f1 := AutoSeq1.idx_int
    wp_walk using wpAny_loadPart' hl
    exact ⟨_, rfl, h⟩
def rRep01 (K : PySem.W.Frag) : R2 := fun x y H Q => ∃ l k xs, x = .ref l ∧ y = .int k ∧ SqT K H l xs ∧ xs ≠ [] ∧ ((k = 1 ∧ Q (.ref l) H) ∨ (k = 0 ∧ ∀ p, H p = none → Q (.ref p) (upd H p (.tup []))))
theorem op_rep01 {X : Cx} : OpR X (binaryOp .Mult) (rRep01 X.K) := by
  intro pins s σ H x y v u Q I rx ry h
  obtain ⟨l, k, xs, rfl, rfl, hT, hne, h⟩ := h
  cases rx
  obtain ⟨t, rfl⟩ := ry
  obtain ⟨its, r, ⟨⟨cls, dd, data, sl⟩, ho, hc, n, hd⟩, hs⟩ := I.tuple hT
  simp only at hc hd
  subst hc hd
  have hle : its.length = xs.length := r.length.symm
  have hi : its.toArray.isEmpty = false := by
    cases its with
    | nil => exact absurd (List.eq_nil_of_length_eq_zero hle.symm) hne
    | cons a b => rfl
  rcases h with ⟨rfl, q⟩ | ⟨rfl, q⟩
  · refine wpAny_binaryOp_repeat_ref (T := "tuple") (U := "int") (by decide) ⟨_, ho, rfl⟩ (fun s' => typeIs_int s' 1 t) noFill_tuple_mul F.fills_int_mul F.slot_int_rmul repeat_tuple F.slot_int_index.lookup
      (call_meets F.slot_int_rmul (typeIs_int s 1 t) F.entry_int_rmul (F.args_int_rmul_2 _ _) (int_rmul_tuple 1 t l its.toArray n dd sl)
        ⟨ho, rfl, ⟨_, ho, rfl⟩, call_meets F.slot_tuple_mul ⟨_, ho, rfl⟩ F.entry_tuple_mul (F.args_tuple_mul_2 _ _) (tuple_mul1 l its.toArray n dd sl t) ⟨ho, ?_⟩⟩)
    exact ⟨.ref l, H, I, rfl, q⟩
  · refine wpAny_binaryOp_repeat_ref (T := "tuple") (U := "int") (by decide) ⟨_, ho, rfl⟩ (fun s' => typeIs_int s' 0 t) noFill_tuple_mul F.fills_int_mul F.slot_int_rmul repeat_tuple F.slot_int_index.lookup
      (call_meets F.slot_int_rmul (typeIs_int s 0 t) F.entry_int_rmul (F.args_int_rmul_2 _ _) (int_rmul_tuple 0 t l its.toArray n dd sl)
        ⟨ho, rfl, ⟨_, ho, rfl⟩, call_meets F.slot_tuple_mul ⟨_, ho, rfl⟩ F.entry_tuple_mul (F.args_tuple_mul_2 _ _) (tuple_mul0 l its.toArray n dd sl t hi) ⟨ho, ?_⟩⟩)
    refine ⟨.ref s.heap.objs.size, _, I.laid (t' := s.toks) (o := .tup []) (fun b ob q => Heap.get?_push_of_some _ q) (Nat.le_refl _) ?_, rfl, q _ (I.hok.fresh (Nat.le_refl _))⟩
    exact ⟨Nat.zero_le _, [], .nil, IsTup.new _ _⟩
end L2
set_option maxHeartbeats 200000
namespace D4
open PySem PySem.Spec PyProof.Rows L2
/-! ### the text -/
def topS (i : Nat) : Stmt := PySem.Challenge.pw_drawloom_k04_bounds_of_kernels.main.body.getD i (.Pass ⟨0, 0, 0, 0⟩)
abbrev s_is_between : Stmt := topS 9
theorem sc_is_between : FnScope ["value", "least", "most"] ["value", "least", "most"] (defScope s_is_between) := ⟨rfl, rfl, rfl, by decide +kernel, rfl, by decide +kernel, by decide +kernel⟩
abbrev s_is_word : Stmt := topS 10
theorem sc_is_word : FnScope ["value"] ["value"] (defScope s_is_word) := ⟨rfl, rfl, rfl, by decide +kernel, rfl, by decide +kernel, by decide +kernel⟩
abbrev s_is_tuple : Stmt := topS 24
theorem sc_is_tuple : FnScope ["value", "least", "most"] ["value", "least", "most"] (defScope s_is_tuple) := ⟨rfl, rfl, rfl, by decide +kernel, rfl, by decide +kernel, by decide +kernel⟩
abbrev s_is_name : Stmt := topS 25
theorem sc_is_name : FnScope ["value", "letter"] ["value"] (defScope s_is_name) := ⟨rfl, rfl, rfl, by decide +kernel, rfl, by decide +kernel, by decide +kernel⟩
abbrev s_is_param : Stmt := topS 26
theorem sc_is_param : FnScope ["value"] ["value"] (defScope s_is_param) := ⟨rfl, rfl, rfl, by decide +kernel, rfl, by decide +kernel, by decide +kernel⟩
abbrev s_is_shared_array : Stmt := topS 27
theorem sc_is_shared_array : FnScope ["value"] ["value"] (defScope s_is_shared_array) := ⟨rfl, rfl, rfl, by decide +kernel, rfl, by decide +kernel, by decide +kernel⟩
abbrev s_is_head : Stmt := topS 28
theorem sc_is_head : FnScope ["params", "shared", "names", "row"] ["params", "shared"] (defScope s_is_head) := ⟨rfl, rfl, rfl, by decide +kernel, rfl, by decide +kernel, by decide +kernel⟩
abbrev s_known_at_first : Stmt := topS 29
theorem sc_known_at_first : FnScope ["params", "shared", "known", "name", "sort", "_"] ["params", "shared"] (defScope s_known_at_first) := ⟨rfl, rfl, rfl, by decide +kernel, rfl, by decide +kernel, by decide +kernel⟩
abbrev s_first_word : Stmt := topS 30
theorem sc_first_word : FnScope ["value"] ["value"] (defScope s_first_word) := ⟨rfl, rfl, rfl, by decide +kernel, rfl, by decide +kernel, by decide +kernel⟩
abbrev s_is_choice : Stmt := topS 31
theorem sc_is_choice : FnScope ["sort", "value"] ["sort", "value"] (defScope s_is_choice) := ⟨rfl, rfl, rfl, by decide +kernel, rfl, by decide +kernel, by decide +kernel⟩
abbrev s_is_part : Stmt := topS 32
theorem sc_is_part : FnScope ["sort", "value", "known", "depth"] ["sort", "value", "known", "depth"] (defScope s_is_part) := ⟨rfl, rfl, rfl, by decide +kernel, rfl, by decide +kernel, by decide +kernel⟩
abbrev s_is_expression : Stmt := topS 33
theorem sc_is_expression : FnScope ["value", "known", "depth", "sorts", "sort", "part"] ["value", "known", "depth"] (defScope s_is_expression) := ⟨rfl, rfl, rfl, by decide +kernel, rfl, by decide +kernel, by decide +kernel⟩
abbrev s_is_kernel : Stmt := topS 35
theorem sc_is_kernel : FnScope ["value", "params", "shared", "body", "walk"] ["value"] (defScope s_is_kernel) := ⟨rfl, rfl, rfl, by decide +kernel, rfl, by decide +kernel, by decide +kernel⟩
abbrev s_check_kernel : Stmt := topS 36
theorem sc_check_kernel : FnScope ["value"] ["value"] (defScope s_check_kernel) := ⟨rfl, rfl, rfl, by decide +kernel, rfl, by decide +kernel, by decide +kernel⟩
abbrev s_bodies : Stmt := topS 37
theorem sc_bodies : FnScope ["statement"] ["statement"] (defScope s_bodies) := ⟨rfl, rfl, rfl, by decide +kernel, rfl, by decide +kernel, by decide +kernel⟩
abbrev s_statements_in : Stmt := topS 38
theorem sc_statements_in : FnScope ["body", "found", "statement", "inner"] ["body"] (defScope s_statements_in) := ⟨rfl, rfl, rfl, by decide +kernel, rfl, by decide +kernel, by decide +kernel⟩
abbrev s_statements : Stmt := topS 39
theorem sc_statements : FnScope ["kernel"] ["kernel"] (defScope s_statements) := ⟨rfl, rfl, rfl, by decide +kernel, rfl, by decide +kernel, by decide +kernel⟩
abbrev s_law_stream : Stmt := topS 41
theorem sc_law_stream : FnScope ["script", "mixed", "cell"] ["script"] (defScope s_law_stream) := ⟨rfl, rfl, rfl, by decide +kernel, rfl, by decide +kernel, by decide +kernel⟩
abbrev s_law_draw : Stmt := topS 42
theorem sc_law_draw : FnScope ["stream", "many", "value"] ["stream", "many"] (defScope s_law_draw) := ⟨rfl, rfl, rfl, by decide +kernel, rfl, by decide +kernel, by decide +kernel⟩
abbrev s_law_given : Stmt := topS 43
theorem sc_law_given : FnScope ["told"] ["told"] (defScope s_law_given) := ⟨rfl, rfl, rfl, by decide +kernel, rfl, by decide +kernel, by decide +kernel⟩
abbrev s_law_told : Stmt := topS 44
theorem sc_law_told : FnScope ["value"] ["value"] (defScope s_law_told) := ⟨rfl, rfl, rfl, by decide +kernel, rfl, by decide +kernel, by decide +kernel⟩
abbrev s_law_case : Stmt := topS 45
theorem sc_law_case : FnScope ["stream", "pick", "many", "value", "k", "one", "rows", "statement", "body", "half", "inner", "outer", "size", "name", "word"] ["stream"] (defScope s_law_case) := ⟨rfl, rfl, rfl, by decide +kernel, rfl, by decide +kernel, by decide +kernel⟩
abbrev s_law : Stmt := topS 46
theorem sc_law : FnScope ["script", "stream", "value", "good"] ["script"] (defScope s_law) := ⟨rfl, rfl, rfl, by decide +kernel, rfl, by decide +kernel, by decide +kernel⟩
abbrev s_init : Stmt := inClass (topS 34) 0
theorem sc_init : FnScope ["self"] ["self"] (defScope s_init) := ⟨rfl, rfl, rfl, by decide +kernel, rfl, by decide +kernel, by decide +kernel⟩
abbrev s_is_body : Stmt := inClass (topS 34) 1
theorem sc_is_body : FnScope ["self", "value", "known", "depth", "looped", "inside", "statement"] ["self", "value", "known", "depth", "looped"] (defScope s_is_body) := ⟨rfl, rfl, rfl, by decide +kernel, rfl, by decide +kernel, by decide +kernel⟩
abbrev s_is_statement : Stmt := inClass (topS 34) 2
theorem sc_is_statement : FnScope ["self", "value", "known", "depth", "looped", "word", "sorts", "sort", "part", "good"] ["self", "value", "known", "depth", "looped"] (defScope s_is_statement) := ⟨rfl, rfl, rfl, by decide +kernel, rfl, by decide +kernel, by decide +kernel⟩
theorem pe_gq {X : Cx} {x : Str} {v : V} {pos : Pos} (hg : Gl X x) (h : ∃ u, X.mg x = some u ∧ RelV v u) (hd : (x == ("__debug__" : Str)) = false := by decide) : PE X (.Name x pos) (tC v) := by
  obtain ⟨u, hm, r⟩ := h
  exact pe_glob hg hm r hd
structure Tx (w : World) (K : PySem.W.Frag) (mg : Str → Option Value) where
  a_is_between : Addr
  d_is_between : FuncData
  F_is_between : Fun K "is_between" "is_between" s_is_between a_is_between d_is_between
  b_is_between : Binds K d_is_between ["value", "least", "most"] []
  g_is_between : mg "is_between" = some (.ref a_is_between)
  a_is_word : Addr
  d_is_word : FuncData
  F_is_word : Fun K "is_word" "is_word" s_is_word a_is_word d_is_word
  b_is_word : Binds K d_is_word ["value"] []
  g_is_word : mg "is_word" = some (.ref a_is_word)
  a_is_tuple : Addr
  d_is_tuple : FuncData
  F_is_tuple : Fun K "is_tuple" "is_tuple" s_is_tuple a_is_tuple d_is_tuple
  b_is_tuple : Binds K d_is_tuple ["value", "least", "most"] []
  g_is_tuple : mg "is_tuple" = some (.ref a_is_tuple)
  a_is_name : Addr
  d_is_name : FuncData
  F_is_name : Fun K "is_name" "is_name" s_is_name a_is_name d_is_name
  b_is_name : Binds K d_is_name ["value"] []
  g_is_name : mg "is_name" = some (.ref a_is_name)
  a_is_param : Addr
  d_is_param : FuncData
  F_is_param : Fun K "is_param" "is_param" s_is_param a_is_param d_is_param
  b_is_param : Binds K d_is_param ["value"] []
  g_is_param : mg "is_param" = some (.ref a_is_param)
  a_is_shared_array : Addr
  d_is_shared_array : FuncData
  F_is_shared_array : Fun K "is_shared_array" "is_shared_array" s_is_shared_array a_is_shared_array d_is_shared_array
  b_is_shared_array : Binds K d_is_shared_array ["value"] []
  g_is_shared_array : mg "is_shared_array" = some (.ref a_is_shared_array)
  a_is_head : Addr
  d_is_head : FuncData
  F_is_head : Fun K "is_head" "is_head" s_is_head a_is_head d_is_head
  b_is_head : Binds K d_is_head ["params", "shared"] []
  g_is_head : mg "is_head" = some (.ref a_is_head)
  a_known_at_first : Addr
  d_known_at_first : FuncData
  F_known_at_first : Fun K "known_at_first" "known_at_first" s_known_at_first a_known_at_first d_known_at_first
  b_known_at_first : Binds K d_known_at_first ["params", "shared"] []
  g_known_at_first : mg "known_at_first" = some (.ref a_known_at_first)
  a_first_word : Addr
  d_first_word : FuncData
  F_first_word : Fun K "first_word" "first_word" s_first_word a_first_word d_first_word
  b_first_word : Binds K d_first_word ["value"] []
  g_first_word : mg "first_word" = some (.ref a_first_word)
  a_is_choice : Addr
  d_is_choice : FuncData
  F_is_choice : Fun K "is_choice" "is_choice" s_is_choice a_is_choice d_is_choice
  b_is_choice : Binds K d_is_choice ["sort", "value"] []
  g_is_choice : mg "is_choice" = some (.ref a_is_choice)
  a_is_part : Addr
  d_is_part : FuncData
  F_is_part : Fun K "is_part" "is_part" s_is_part a_is_part d_is_part
  b_is_part : Binds K d_is_part ["sort", "value", "known", "depth"] []
  g_is_part : mg "is_part" = some (.ref a_is_part)
  a_is_expression : Addr
  d_is_expression : FuncData
  F_is_expression : Fun K "is_expression" "is_expression" s_is_expression a_is_expression d_is_expression
  b_is_expression : Binds K d_is_expression ["value", "known", "depth"] []
  g_is_expression : mg "is_expression" = some (.ref a_is_expression)
  a_is_kernel : Addr
  d_is_kernel : FuncData
  F_is_kernel : Fun K "is_kernel" "is_kernel" s_is_kernel a_is_kernel d_is_kernel
  b_is_kernel : Binds K d_is_kernel ["value"] []
  g_is_kernel : mg "is_kernel" = some (.ref a_is_kernel)
  a_check_kernel : Addr
  d_check_kernel : FuncData
  F_check_kernel : Fun K "check_kernel" "check_kernel" s_check_kernel a_check_kernel d_check_kernel
  b_check_kernel : Binds K d_check_kernel ["value"] []
  g_check_kernel : mg "check_kernel" = some (.ref a_check_kernel)
  a_bodies : Addr
  d_bodies : FuncData
  F_bodies : Fun K "bodies" "bodies" s_bodies a_bodies d_bodies
  b_bodies : Binds K d_bodies ["statement"] []
  g_bodies : mg "bodies" = some (.ref a_bodies)
  a_statements_in : Addr
  d_statements_in : FuncData
  F_statements_in : Fun K "statements_in" "statements_in" s_statements_in a_statements_in d_statements_in
  b_statements_in : Binds K d_statements_in ["body"] []
  g_statements_in : mg "statements_in" = some (.ref a_statements_in)
  a_statements : Addr
  d_statements : FuncData
  F_statements : Fun K "statements" "statements" s_statements a_statements d_statements
  b_statements : Binds K d_statements ["kernel"] []
  g_statements : mg "statements" = some (.ref a_statements)
  a_law_stream : Addr
  d_law_stream : FuncData
  F_law_stream : Fun K "_law_stream" "_law_stream" s_law_stream a_law_stream d_law_stream
  b_law_stream : Binds K d_law_stream ["script"] []
  g_law_stream : mg "_law_stream" = some (.ref a_law_stream)
  a_law_draw : Addr
  d_law_draw : FuncData
  F_law_draw : Fun K "_law_draw" "_law_draw" s_law_draw a_law_draw d_law_draw
  b_law_draw : Binds K d_law_draw ["stream", "many"] []
  g_law_draw : mg "_law_draw" = some (.ref a_law_draw)
  a_law_given : Addr
  d_law_given : FuncData
  F_law_given : Fun K "_law_given" "_law_given" s_law_given a_law_given d_law_given
  b_law_given : Binds K d_law_given ["told"] []
  g_law_given : mg "_law_given" = some (.ref a_law_given)
  a_law_told : Addr
  d_law_told : FuncData
  F_law_told : Fun K "_law_told" "_law_told" s_law_told a_law_told d_law_told
  b_law_told : Binds K d_law_told ["value"] []
  g_law_told : mg "_law_told" = some (.ref a_law_told)
  a_law_case : Addr
  d_law_case : FuncData
  F_law_case : Fun K "_law_case" "_law_case" s_law_case a_law_case d_law_case
  b_law_case : Binds K d_law_case ["stream"] []
  g_law_case : mg "_law_case" = some (.ref a_law_case)
  a_law : Addr
  d_law : FuncData
  F_law : Fun K "law" "law" s_law a_law d_law
  g_law : mg "law" = some (.ref a_law)
  c_Walk : Addr
  g_Walk : mg "Walk" = some (.ref c_Walk)
  cl_Walk : Cls K c_Walk
  n_Walk_passed : NoAttr K c_Walk "passed"
  a_init : Addr
  d_init : FuncData
  F_init : Fun K "__init__" "Walk.__init__" s_init a_init d_init
  b_init : Binds K d_init ["self"] []
  mk_Walk : Mk K c_Walk a_init
  a_is_body : Addr
  d_is_body : FuncData
  F_is_body : Fun K "is_body" "Walk.is_body" s_is_body a_is_body d_is_body
  b_is_body : Binds K d_is_body ["self", "value", "known", "depth", "looped"] []
  m_is_body : Meth K c_Walk "is_body" a_is_body
  a_is_statement : Addr
  d_is_statement : FuncData
  F_is_statement : Fun K "is_statement" "Walk.is_statement" s_is_statement a_is_statement d_is_statement
  b_is_statement : Binds K d_is_statement ["self", "value", "known", "depth", "looped"] []
  m_is_statement : Meth K c_Walk "is_statement" a_is_statement
  c_DrawloomError : Addr
  g_DrawloomError : mg "DrawloomError" = some (.ref c_DrawloomError)
  x_DrawloomError : PySem.W.excIn K c_DrawloomError [.type "ValueError", .type "Exception", .type "BaseException", .type "object"] "ValueError.__new__" = true
  k_DrawloomError : PySem.W.keepIn K (.ref c_DrawloomError) = true
  bx_DrawloomError : PySem.W.subIn K (.ref c_DrawloomError) (.type "BaseException") = some true
  ty_DrawloomError : PySem.W.typeIn K (.ref c_DrawloomError) = some (.type "type")
  hd_DrawloomError : PySem.W.hasDictIn K c_DrawloomError = true
  me_DrawloomError : PySem.W.subIn K (.ref c_DrawloomError) (.ref c_DrawloomError) = some true
  ec_DrawloomError : ExcC K c_DrawloomError
  kv_DrawloomError : PySem.W.kitOne K (.ref c_DrawloomError) (.type "ValueError") = some true
  c_BadKernel : Addr
  g_BadKernel : mg "BadKernel" = some (.ref c_BadKernel)
  x_BadKernel : PySem.W.excIn K c_BadKernel [.type "ValueError", .type "Exception", .type "BaseException", .type "object"] "ValueError.__new__" = true
  k_BadKernel : PySem.W.keepIn K (.ref c_BadKernel) = true
  bx_BadKernel : PySem.W.subIn K (.ref c_BadKernel) (.type "BaseException") = some true
  ty_BadKernel : PySem.W.typeIn K (.ref c_BadKernel) = some (.type "type")
  hd_BadKernel : PySem.W.hasDictIn K c_BadKernel = true
  me_BadKernel : PySem.W.subIn K (.ref c_BadKernel) (.ref c_BadKernel) = some true
  ec_BadKernel : ExcC K c_BadKernel
  kv_BadKernel : PySem.W.kitOne K (.ref c_BadKernel) (.type "ValueError") = some true
  kk_BadKernel_DrawloomError : PySem.W.kitOne K (.ref c_BadKernel) (.ref c_DrawloomError) = some true
  z_abs : mg "abs" = none
  z_all : mg "all" = none
  z_bool : mg "bool" = none
  z_dict : mg "dict" = none
  z_int : mg "int" = none
  z_isinstance : mg "isinstance" = none
  z_len : mg "len" = none
  z_list : mg "list" = none
  z_range : mg "range" = none
  z_set : mg "set" = none
  z_str : mg "str" = none
  z_tuple : mg "tuple" = none
  z_zip : mg "zip" = none
  q_LEAST : ∃ u, mg "LEAST" = some u ∧ RelV (.int (-2147483648)) u
  q_GREATEST : ∃ u, mg "GREATEST" = some u ∧ RelV (.int (2147483647)) u
  q_MOST_LETTERS : ∃ u, mg "MOST_LETTERS" = some u ∧ RelV (.int (12)) u
  q_MOST_PARAMS : ∃ u, mg "MOST_PARAMS" = some u ∧ RelV (.int (6)) u
  q_MOST_SHARED : ∃ u, mg "MOST_SHARED" = some u ∧ RelV (.int (3)) u
  q_MOST_SHARED_CELLS : ∃ u, mg "MOST_SHARED_CELLS" = some u ∧ RelV (.int (16)) u
  q_DEEPEST_BODY : ∃ u, mg "DEEPEST_BODY" = some u ∧ RelV (.int (10)) u
  q_DEEPEST_EXPRESSION : ∃ u, mg "DEEPEST_EXPRESSION" = some u ∧ RelV (.int (10)) u
  q_MOST_STATEMENTS : ∃ u, mg "MOST_STATEMENTS" = some u ∧ RelV (.int (100)) u
  q_LETTERS : ∃ u, mg "LETTERS" = some u ∧ RelV (.str "abcdefghijklmnopqrstuvwxyz") u
  q_DIGITS : ∃ u, mg "DIGITS" = some u ∧ RelV (.str "0123456789") u
  a_SPECIALS : Addr
  q_SPECIALS : ∃ u, mg "SPECIALS" = some u ∧ RelV (.ref a_SPECIALS) u
  t_SPECIALS : ∃ (o : Obj) (its : Array Value) (n : Nat), K.lookup a_SPECIALS = some o ∧ o.cls = .type "tuple" ∧ o.data = .seq its n ∧ its.size ≤ sizeLine ∧ Vals ([.str "tid", .str "bid", .str "dim", .str "grid"]) its.toList
  a_UNARY : Addr
  q_UNARY : ∃ u, mg "UNARY" = some u ∧ RelV (.ref a_UNARY) u
  t_UNARY : ∃ (o : Obj) (its : Array Value) (n : Nat), K.lookup a_UNARY = some o ∧ o.cls = .type "tuple" ∧ o.data = .seq its n ∧ its.size ≤ sizeLine ∧ Vals ([.str "neg", .str "not", .str "zero"]) its.toList
  a_FOLDING : Addr
  q_FOLDING : ∃ u, mg "FOLDING" = some u ∧ RelV (.ref a_FOLDING) u
  t_FOLDING : ∃ (o : Obj) (its : Array Value) (n : Nat), K.lookup a_FOLDING = some o ∧ o.cls = .type "tuple" ∧ o.data = .seq its n ∧ its.size ≤ sizeLine ∧ Vals ([.str "add", .str "min", .str "max", .str "and", .str "or", .str "xor"]) its.toList
  a_BINARY : Addr
  q_BINARY : ∃ u, mg "BINARY" = some u ∧ RelV (.ref a_BINARY) u
  t_BINARY : ∃ (o : Obj) (its : Array Value) (n : Nat), K.lookup a_BINARY = some o ∧ o.cls = .type "tuple" ∧ o.data = .seq its n ∧ its.size ≤ sizeLine ∧ Vals ([.str "add", .str "sub", .str "mul", .str "div", .str "rem", .str "and", .str "or", .str "xor", .str "shl", .str "shr", .str "lt", .str "le", .str "eq", .str "ne", .str "min", .str "max"]) its.toList
  a_EXPRESSION_PARTS : Addr
  q_EXPRESSION_PARTS : ∃ u, mg "EXPRESSION_PARTS" = some u ∧ RelV (.ref a_EXPRESSION_PARTS) u
  p_EXPRESSION_PARTS_0 : Addr
  t_EXPRESSION_PARTS_0 : KTup K p_EXPRESSION_PARTS_0 [.str "word"]
  p_EXPRESSION_PARTS_1 : Addr
  t_EXPRESSION_PARTS_1 : KTup K p_EXPRESSION_PARTS_1 [.str "int"]
  p_EXPRESSION_PARTS_2 : Addr
  t_EXPRESSION_PARTS_2 : KTup K p_EXPRESSION_PARTS_2 [.str "special"]
  p_EXPRESSION_PARTS_3 : Addr
  t_EXPRESSION_PARTS_3 : KTup K p_EXPRESSION_PARTS_3 [.str "unary", .str "expression"]
  p_EXPRESSION_PARTS_4 : Addr
  t_EXPRESSION_PARTS_4 : KTup K p_EXPRESSION_PARTS_4 [.str "binary", .str "expression", .str "expression"]
  p_EXPRESSION_PARTS_5 : Addr
  t_EXPRESSION_PARTS_5 : KTup K p_EXPRESSION_PARTS_5 [.str "expression", .str "expression", .str "expression"]
  p_EXPRESSION_PARTS_6 : Addr
  t_EXPRESSION_PARTS_6 : KTup K p_EXPRESSION_PARTS_6 [.str "array", .str "expression"]
  w_EXPRESSION_PARTS : KTab K w a_EXPRESSION_PARTS [("word", .ref p_EXPRESSION_PARTS_0), ("name", .ref p_EXPRESSION_PARTS_1), ("special", .ref p_EXPRESSION_PARTS_2), ("unary", .ref p_EXPRESSION_PARTS_3), ("binary", .ref p_EXPRESSION_PARTS_4), ("pick", .ref p_EXPRESSION_PARTS_5), ("load", .ref p_EXPRESSION_PARTS_6)]
  a_STATEMENT_PARTS : Addr
  q_STATEMENT_PARTS : ∃ u, mg "STATEMENT_PARTS" = some u ∧ RelV (.ref a_STATEMENT_PARTS) u
  p_STATEMENT_PARTS_0 : Addr
  t_STATEMENT_PARTS_0 : KTup K p_STATEMENT_PARTS_0 [.str "new", .str "expression"]
  p_STATEMENT_PARTS_1 : Addr
  t_STATEMENT_PARTS_1 : KTup K p_STATEMENT_PARTS_1 [.str "int", .str "expression"]
  p_STATEMENT_PARTS_2 : Addr
  t_STATEMENT_PARTS_2 : KTup K p_STATEMENT_PARTS_2 [.str "array", .str "expression", .str "expression"]
  p_STATEMENT_PARTS_3 : Addr
  t_STATEMENT_PARTS_3 : KTup K p_STATEMENT_PARTS_3 [.str "folding", .str "array", .str "expression", .str "expression"]
  p_STATEMENT_PARTS_4 : Addr
  t_STATEMENT_PARTS_4 : KTup K p_STATEMENT_PARTS_4 [.str "expression", .str "body", .str "body"]
  p_STATEMENT_PARTS_5 : Addr
  t_STATEMENT_PARTS_5 : KTup K p_STATEMENT_PARTS_5 [.str "expression", .str "body"]
  p_STATEMENT_PARTS_6 : Addr
  t_STATEMENT_PARTS_6 : KTup K p_STATEMENT_PARTS_6 []
  p_STATEMENT_PARTS_7 : Addr
  t_STATEMENT_PARTS_7 : KTup K p_STATEMENT_PARTS_7 []
  p_STATEMENT_PARTS_8 : Addr
  t_STATEMENT_PARTS_8 : KTup K p_STATEMENT_PARTS_8 []
  p_STATEMENT_PARTS_9 : Addr
  t_STATEMENT_PARTS_9 : KTup K p_STATEMENT_PARTS_9 []
  p_STATEMENT_PARTS_10 : Addr
  t_STATEMENT_PARTS_10 : KTup K p_STATEMENT_PARTS_10 [.str "new", .str "folding", .str "expression"]
  w_STATEMENT_PARTS : KTab K w a_STATEMENT_PARTS [("let", .ref p_STATEMENT_PARTS_0), ("set", .ref p_STATEMENT_PARTS_1), ("put", .ref p_STATEMENT_PARTS_2), ("atomic", .ref p_STATEMENT_PARTS_3), ("if", .ref p_STATEMENT_PARTS_4), ("while", .ref p_STATEMENT_PARTS_5), ("break", .ref p_STATEMENT_PARTS_6), ("continue", .ref p_STATEMENT_PARTS_7), ("return", .ref p_STATEMENT_PARTS_8), ("barrier", .ref p_STATEMENT_PARTS_9), ("collect", .ref p_STATEMENT_PARTS_10)]
def numIn (lo hi : Int) : PyData → Bool
  | .int i => decide (lo ≤ i) && decide (i ≤ hi)
  | _ => false
def tupIn (lo hi : Int) : PyData → Bool
  | .tuple xs => decide (lo ≤ (xs.length : Int)) && decide ((xs.length : Int) ≤ hi)
  | _ => false
def wordD (d : PyData) : Bool := numIn (-2147483648) 2147483647 d
theorem same_new5 {H : Hp} {p : Addr} {o : HO} (h : H p = none) : Same H (upd H p o) := fun b x e => by
  rw [upd_ne (ne_of_none e h)]
  exact e
def spD (K : PySem.W.Frag) (f : PyData → Bool) : Sp := fun vs H Q _ => ∃ (v : V) (d : PyData), vs = [v] ∧ Dp K H v d ∧ ∀ H', Same H H' → Q (.bl (f d)) H'
def spD2 (K : PySem.W.Frag) (f : Int → Int → PyData → Bool) : Sp := fun vs H Q _ => ∃ (v : V) (d : PyData) (lo hi : Int), vs = [v, .int lo, .int hi] ∧ Dp K H v d ∧ Q (.bl (f lo hi d)) H
section
variable {P : Program} {w : World} {K : PySem.W.Frag} {mg : Str → Option Value} {base : Heap}
theorem ok_is_between (T : Tx w K mg) : FnOk P w K mg base CX0 1 T.a_is_between T.d_is_between ["value", "least", "most"] (spD2 K numIn) := by
  refine T.F_is_between.ok sc_is_between (fun vs H Q E h => ?_) (fun cdv A outer s H vs Q E hr h => ?_)
  · obtain ⟨v, d, lo, hi, rfl, _⟩ := h
    rfl
  · obtain ⟨v, d, lo, hi, rfl, hd, q⟩ := h
    refine ⟨_, (pss_cons (ps_if (PW.pt (pw_or (pt_not (pt_val (pe_callB call_isi (by rfl) T.z_isinstance (by decide +kernel) (pa_cons (pv 0) (pa_cons (pe_bltn (v := .ty "int") (u := .type "int") (by rfl) T.z_int (by decide +kernel) rfl) pa_nil))))) (pw_or1 (pt_val (pe_callB call_isi (by rfl) T.z_isinstance (by decide +kernel) (pa_cons (pv 0) (pa_cons (pe_bltn (v := .ty "bool") (u := .type "bool") (by rfl) T.z_bool (by decide +kernel) rfl) pa_nil))))))) (pss_one (ps_ret pe_bl)) pss_nil)
      (pss_one (ps_ret (pe_chain op_le op_le (pv 1) (pv 0) (pv 2))))), ?_⟩
    refine ⟨_, rfl, _, _, _, _, _, rfl, .ty "int", hd.tyx, kit_int d, _, rfl, ?_⟩
    cases hd with
    | int i =>
      refine ⟨_, rfl, _, _, _, _, _, rfl, .ty "bool", .base (.int i), kit_bool (.int i), _, rfl, iteF ?_⟩
      refine ⟨_, rfl, _, rfl, _, _, rfl, rfl, _, rfl, ?_⟩
      by_cases h1 : lo ≤ i
      · rw [decide_eq_true h1]
        refine iteT ⟨_, rfl, _, _, rfl, rfl, ?_⟩
        have e : numIn lo hi (.int i) = decide (i ≤ hi) := by show (decide (lo ≤ i) && decide (i ≤ hi)) = _; rw [decide_eq_true h1, Bool.true_and]
        rw [e] at q
        exact q
      · rw [decide_eq_false h1]
        have e : numIn lo hi (.int i) = false := by show (decide (lo ≤ i) && decide (i ≤ hi)) = _; rw [decide_eq_false h1, Bool.false_and]
        rw [e] at q
        exact iteF q
    | bl b => exact ⟨_, rfl, _, _, _, _, _, rfl, .ty "bool", .base (.bl b), kit_bool (.bool b), _, rfl, q⟩
    | non => exact q
    | str x => exact q
    | lst h r => exact q
    | tup h r => exact q
theorem ok_is_word (T : Tx w K mg) : FnOk P w K mg base CX0 2 T.a_is_word T.d_is_word ["value"] (spD K wordD) := by
  refine T.F_is_word.ok sc_is_word (fun vs H Q E h => ?_) (fun cdv A outer s H vs Q E hr h => ?_)
  · obtain ⟨v, d, rfl, _⟩ := h
    rfl
  · obtain ⟨v, d, rfl, hd, q⟩ := h
    refine ⟨_, (pss_one (ps_ret (pe_call (ok_is_between T) (hr.mono (by decide)) (by rfl) T.g_is_between T.F_is_between.kp T.b_is_between .nil pass0 (pa_cons (pv 0) (pa_cons (pe_gq (by rfl) T.q_LEAST) (pa_cons (pe_gq (by rfl) T.q_GREATEST) pa_nil)))))), ?_⟩
    exact ⟨_, rfl, v, d, _, _, rfl, hd, q _ (.refl H)⟩
theorem ok_is_tuple (T : Tx w K mg) : FnOk P w K mg base CX0 1 T.a_is_tuple T.d_is_tuple ["value", "least", "most"] (spD2 K tupIn) := by
  refine T.F_is_tuple.ok sc_is_tuple (fun vs H Q E h => ?_) (fun cdv A outer s H vs Q E hr h => ?_)
  · obtain ⟨v, d, lo, hi, rfl, _⟩ := h
    rfl
  · obtain ⟨v, d, lo, hi, rfl, hd, q⟩ := h
    refine ⟨_, (pss_one (ps_ret (pe_and (pe_callB call_isi (by rfl) T.z_isinstance (by decide +kernel) (pa_cons (pv 0) (pa_cons (pe_bltn (v := .ty "tuple") (u := .type "tuple") (by rfl) T.z_tuple (by decide +kernel) rfl) pa_nil))) (pe_one (pe_chain op_le op_le (pv 1) (pe_callB call_len_seq (by rfl) T.z_len (by decide +kernel) (pa_cons (pv 0) pa_nil)) (pv 2)))))), ?_⟩
    refine ⟨_, rfl, _, _, _, _, _, rfl, .ty "tuple", hd.tyx, kit_tup d, _, rfl, ?_⟩
    cases hd with
    | @tup a xs ds h r =>
      have el : (xs.length : Int) = (ds.length : Int) := by rw [r.len]
      refine iteT ⟨_, rfl, _, rfl, a, xs, rfl, .inr h, _, _, rfl, rfl, _, rfl, ?_⟩
      by_cases h1 : lo ≤ (xs.length : Int)
      · rw [decide_eq_true h1]
        refine iteT ⟨_, rfl, _, _, rfl, rfl, ?_⟩
        have e : tupIn lo hi (.tuple ds) = decide ((xs.length : Int) ≤ hi) := by show (decide (lo ≤ (ds.length : Int)) && decide ((ds.length : Int) ≤ hi)) = _; rw [← el, decide_eq_true h1, Bool.true_and]
        rw [e] at q
        exact q
      · rw [decide_eq_false h1]
        have e : tupIn lo hi (.tuple ds) = false := by show (decide (lo ≤ (ds.length : Int)) && decide ((ds.length : Int) ≤ hi)) = _; rw [← el, decide_eq_false h1, Bool.false_and]
        rw [e] at q
        exact iteF q
    | int i => exact q
    | bl b => exact q
    | non => exact q
    | str x => exact q
    | lst h r => exact q
/-- the bools that a comprehension has made so far -/
theorem bools_snoc {xs : List PyData} {f : PyData → Bool} {i : Nat} {d : PyData} (h : xs[i]? = some d) : ((xs.take (i + 1)).map fun d => V.bl (f d)) = ((xs.take i).map fun d => V.bl (f d)) ++ [V.bl (f d)] := by
  rw [List.take_add_one, h, List.map_append]
  rfl
theorem all_bools (xs : List PyData) (f : PyData → Bool) : (xs.map f).all id = xs.all f := by
  induction xs with
  | nil => rfl
  | cons x r ih => rw [List.map_cons, List.all_cons, List.all_cons, ih]; rfl
def letC (c : Nat) : Bool := decide (c ∈ ("abcdefghijklmnopqrstuvwxyz" : Str).cps.toList)
def digC (c : Nat) : Bool := decide (c ∈ ("0123456789" : Str).cps.toList)
def nameS (cs : List Nat) : Bool := match cs with
  | [] => false
  | c :: r => decide (cs.length ≤ 12) && letC c && (cs.all fun c => letC c || digC c)
def nameD : PyData → Bool
  | .str x => nameS x.cps.toList
  | _ => false
def spS (K : PySem.W.Frag) (f : PyData → Bool) : Sp := fun vs H Q _ => ∃ (v : V) (d : PyData), vs = [v] ∧ Dp K H v d ∧ fine d = true ∧ ∀ H', Same H H' → Q (.bl (f d)) H'
theorem cbools_snoc {xs : List Nat} {f : Nat → Bool} {i : Nat} {d : Nat} (h : xs[i]? = some d) : ((xs.take (i + 1)).map fun d => V.bl (f d)) = ((xs.take i).map fun d => V.bl (f d)) ++ [V.bl (f d)] := by
  rw [List.take_add_one, h, List.map_append]
  rfl
theorem call_bools (xs : List Nat) (f : Nat → Bool) : (xs.map f).all id = xs.all f := by
  induction xs with
  | nil => rfl
  | cons x r ih => rw [List.map_cons, List.all_cons, List.all_cons, ih]; rfl
theorem atI_nat {α : Type} {xs : List α} {i : Nat} {x : α} (h : xs[i]? = some x) : atI xs (i : Int) = some x := by
  have hl : i < xs.length := (List.getElem?_eq_some_iff.mp h).1
  unfold atI ixN
  rw [if_pos (Int.natCast_nonneg i), if_pos (by omega)]
  exact h
theorem atI_head {α : Type} {c : α} {r : List α} : atI (c :: r) 0 = some c := atI_nat (i := 0) rfl
theorem ok_is_name (T : Tx w K mg) : FnOk P w K mg base CX0 1 T.a_is_name T.d_is_name ["value"] (spS K nameD) := by
  refine T.F_is_name.ok sc_is_name (fun vs H Q E h => ?_) (fun cdv A outer s H vs Q E hr h => ?_)
  · obtain ⟨v, d, rfl, _⟩ := h
    rfl
  · obtain ⟨v, d, rfl, hd, hs, q⟩ := h
    refine ⟨_, (pss_cons (ps_if (PW.pt (pw_or (pt_not (pt_val (pe_callB call_isi (by rfl) T.z_isinstance (by decide +kernel) (pa_cons (pv 0) (pa_cons (pe_bltn (v := .ty "str") (u := .type "str") (by rfl) T.z_str (by decide +kernel) rfl) pa_nil))))) (pw_or1 (pt_not (pt_chain op_le op_le pe_int (pe_callB call_len_str (by rfl) T.z_len (by decide +kernel) (pa_cons (pv 0) pa_nil)) (pe_gq (by rfl) T.q_MOST_LETTERS)))))) (pss_one (ps_ret pe_bl)) pss_nil)
      (pss_cons (ps_if (pt_cmpR op_notIn_sign (pe_ix ix_str (pv 0) pe_int (fun _ _ => rfl)) (pe_gq (by rfl) T.q_LETTERS) (by rfl)) (pss_one (ps_ret pe_bl)) pss_nil)
      (pss_one (ps_ret (pe_callB (cr_all rfl) (by rfl) T.z_all (by decide +kernel) (pa_cons (pe_lc (own := [("letter", 1)]) (g := gName 1) (tt := tYes) rfl sc_is_name.nd (pi_str (pv 0)) (blkOk_by (N := ["value", "letter"]) (sc := defScope s_is_name) (by decide +kernel)) (fun _ _ _ _ _ => (pg_name (i := 1) sc_is_name.nd rfl (.inl rfl))) (fun _ _ _ _ _ => pts_nil) (fun _ _ _ _ _ => (pe_or (pe_cmpR op_in_sign (pv 1) (pe_gq (by rfl) T.q_LETTERS) (by rfl)) (pe_one (pe_cmpR op_in_sign (pv 1) (pe_gq (by rfl) T.q_DIGITS) (by rfl)))))) pa_nil)))))), ?_⟩
    refine ⟨_, rfl, _, _, _, _, _, rfl, .ty "str", hd.tyx, kit_str d, _, rfl, ?_⟩
    cases hd with
    | str x =>
      refine ⟨_, rfl, x, rfl, fine_len hs, _, _, rfl, rfl, _, rfl, ?_⟩
      obtain ⟨⟨cs⟩⟩ := x
      by_cases h1 : (1 : Int) ≤ ((⟨⟨cs⟩⟩ : Str).length : Int)
      · rw [decide_eq_true h1]
        refine iteT ⟨_, _, rfl, rfl, _, rfl, ?_⟩
        cases cs with
        | nil => exact absurd h1 (by show ¬ ((1 : Int) ≤ ((0 : Nat) : Int)); omega)
        | cons c r =>
        have el : ((⟨⟨c :: r⟩⟩ : Str).length : Int) = ((c :: r).length : Int) := rfl
        by_cases h2 : ((⟨⟨c :: r⟩⟩ : Str).length : Int) ≤ 12
        · rw [decide_eq_true h2]
          have h3 : (c :: r).length ≤ 12 := by rw [el] at h2; omega
          refine iteF ⟨_, rfl, _, _, c, rfl, rfl, fine_len hs, atI_head, c, _, rfl, rfl, _, rfl, ?_⟩
          have en : nameD (.str ⟨⟨c :: r⟩⟩) = (letC c && ((c :: r).all fun c => letC c || digC c)) := by
            show (decide ((c :: r).length ≤ 12) && letC c && _) = _
            rw [decide_eq_true h3, Bool.true_and]
          rw [en] at q
          show ite ((!letC c) = true) _ _
          cases hc : letC c with
          | false =>
            rw [hc] at q
            exact iteT (q _ (.refl H))
          | true =>
          rw [hc, Bool.true_and] at q
          refine iteF ⟨_, rfl, _, rfl, fun D nD => lc_it walk_str (fun i H' => H' D = some (.lst (((c :: r).take i).map fun c => V.bl (letC c || digC c))) ∧ Same H H') ⟨upd_same, fun c o e => by rw [upd_ne (ne_of_none e nD)]; exact e⟩ (fun _ _ _ _ => trivial) ?_ ?_⟩
          · rintro i x H1 H1' hi ⟨eD, sm⟩ ⟨rfl, ch, ex, rfl⟩
            have hx : (c :: r)[i]? = some ch := by simpa using ex
            have hi2 : i < (c :: r).length := (List.getElem?_eq_some_iff.mp hx).1
            have fin : ∀ b : Bool, b = (letC ch || digC ch) → ∃ acc, H1' D = some (HO.lst acc) ∧ acc.length < sizeLine ∧ upd H1' D (HO.lst (acc ++ [V.bl b])) D = some (HO.lst (List.map (fun c => V.bl (letC c || digC c)) (List.take (i + 1) (c :: r)))) ∧ Same H (upd H1' D (HO.lst (acc ++ [V.bl b]))) := by
              rintro b rfl
              refine ⟨_, eD, ?_, ?_, fun c o e => ?_⟩
              · rw [List.length_map]; exact small1000 (by rw [List.length_take]; omega)
              · rw [upd_same, cbools_snoc hx]
              · rw [upd_ne (ne_of_none e nD)]; exact sm _ _ e
            refine ⟨rfl, _, rfl, ch, _, rfl, rfl, _, rfl, ?_⟩
            show ite (letC ch = true) _ _
            cases hl : letC ch with
            | true => exact iteT (fin true (by rw [hl]; rfl))
            | false => exact iteF ⟨_, rfl, ch, _, rfl, rfl, fin _ (by rw [hl]; rfl)⟩
          · rintro H1 ⟨eD, sm⟩
            replace eD : H1 D = some (.lst (((c :: r).take (c :: r).length).map fun c => V.bl (letC c || digC c))) := eD
            rw [List.take_length] at eD
            refine ⟨D, (c :: r).map fun c => letC c || digC c, rfl, SqL.of (by rw [List.map_map]; exact eD), ?_⟩
            rw [call_bools]
            exact q _ sm
        · rw [decide_eq_false h2]
          have en : nameD (.str ⟨⟨c :: r⟩⟩) = false := by
            show (decide ((c :: r).length ≤ 12) && letC c && _) = _
            rw [decide_eq_false (by rw [el] at h2; omega), Bool.false_and, Bool.false_and]
          rw [en] at q
          exact iteT (q _ (.refl H))
      · rw [decide_eq_false h1]
        have e : cs = [] := by
          cases cs with
          | nil => rfl
          | cons c r => exact absurd (by show (1 : Int) ≤ ((r.length + 1 : Nat) : Int); omega) h1
        subst e
        exact iteF ⟨_, rfl, q _ (.refl H)⟩
    | int i => exact q _ (.refl H)
    | bl b => exact q _ (.refl H)
    | non => exact q _ (.refl H)
    | tup h r => exact q _ (.refl H)
    | lst h r => exact q _ (.refl H)
def sortD (p q : Str) : PyData → Bool := oneOf [p, q]
def paramD : PyData → Bool
  | .tuple [a, b] => nameD a && oneOf ["int", "buffer"] b
  | _ => false
def sharedD : PyData → Bool
  | .tuple [a, b] => nameD a && numIn 1 16 b
  | _ => false
theorem tupIn2 {d : PyData} (h : tupIn 2 2 d = true) : ∃ a b, d = .tuple [a, b] := by
  cases d with
  | tuple xs =>
    replace h : (decide ((2 : Int) ≤ (xs.length : Int)) && decide ((xs.length : Int) ≤ 2)) = true := h
    rw [Bool.and_eq_true] at h
    have h1 := of_decide_eq_true h.1
    have h2 := of_decide_eq_true h.2
    match xs, h1, h2 with
    | [a, b], _, _ => exact ⟨a, b, rfl⟩
    | [], h, _ => exact absurd h (by show ¬ ((2 : Int) ≤ ((0 : Nat) : Int)); omega)
    | [_], h, _ => exact absurd h (by show ¬ ((2 : Int) ≤ ((1 : Nat) : Int)); omega)
    | _ :: _ :: _ :: r, _, h => exact absurd h (by simp only [List.length_cons]; omega)
  | _ => cases h
theorem ok_is_param (T : Tx w K mg) : FnOk P w K mg base CX0 4 T.a_is_param T.d_is_param ["value"] (spS K paramD) := by
  refine T.F_is_param.ok sc_is_param (fun vs H Q E h => ?_) (fun cdv A outer s H vs Q E hr h => ?_)
  · obtain ⟨v, d, rfl, _⟩ := h
    rfl
  · obtain ⟨v, d, rfl, hd, hs, q⟩ := h
    refine ⟨_, (pss_one (ps_ret (pe_and (pe_call (ok_is_tuple T) (hr.mono (by decide)) (by rfl) T.g_is_tuple T.F_is_tuple.kp T.b_is_tuple .nil pass0 (pa_cons (pv 0) (pa_cons pe_int (pa_cons pe_int pa_nil)))) (pe_and (pe_call (ok_is_name T) (hr.mono (by decide)) (by rfl) T.g_is_name T.F_is_name.kp T.b_is_name .nil pass0 (pa_cons (pe_ix ix_tup (pv 0) pe_int (fun _ _ => rfl)) pa_nil)) (pe_one (pe_cmpR (op_inT hr.units) (pe_ix ix_tup (pv 0) pe_int (fun _ _ => rfl)) (pe_tup (pa_cons pe_str (pa_cons pe_str pa_nil))) (by rfl))))))), ?_⟩
    refine ⟨_, rfl, v, d, 2, 2, rfl, hd, _, rfl, ?_⟩
    by_cases ht : tupIn 2 2 d = true
    · rw [ht]
      obtain ⟨da, db, rfl⟩ := tupIn2 ht
      cases hd with
      | @tup a xs ds h r =>
      cases r with
      | @cons va _ _ _ pa r2 =>
      cases r2 with
      | @cons vb _ _ _ pb r3 =>
      cases r3
      have fs := fine_tup hs
      refine iteT ⟨_, rfl, a, [va, vb], 0, va, rfl, rfl, h, rfl, va, da, rfl, pa, fineAll_mem fs (.head _), fun H1 s1 => ⟨_, rfl, ?_⟩⟩
      have e : paramD (.tuple [da, db]) = (nameD da && oneOf ["int", "buffer"] db) := rfl
      rw [e] at q
      cases hn : nameD da with
      | false =>
        rw [hn] at q
        exact iteF (q _ s1)
      | true =>
      rw [hn, Bool.true_and] at q
      refine iteT ⟨_, rfl, a, [va, vb], 1, vb, rfl, rfl, Same.sqt s1 h, rfl, by decide +kernel, fun p np => ?_⟩
      have s2 := s1.trans (same_new5 (o := .tup [.str "int", .str "buffer"]) np)
      exact rInT_strs ["int", "buffer"] (pb.same s2) (.tup (.inl (.inl upd_same)) (DpAll.strs ["int", "buffer"])) (fine_lay _ (fineAll_mem fs (.tail _ (.head _)))) (by decide +kernel) (q _ s2)
    · rw [Bool.eq_false_iff.mpr ht]
      have e : paramD d = false := by
        unfold paramD
        split
        · exact absurd rfl ht
        · rfl
      rw [e] at q
      exact iteF (q _ (.refl H))
theorem ok_is_shared_array (T : Tx w K mg) : FnOk P w K mg base CX0 4 T.a_is_shared_array T.d_is_shared_array ["value"] (spS K sharedD) := by
  refine T.F_is_shared_array.ok sc_is_shared_array (fun vs H Q E h => ?_) (fun cdv A outer s H vs Q E hr h => ?_)
  · obtain ⟨v, d, rfl, _⟩ := h
    rfl
  · obtain ⟨v, d, rfl, hd, hs, q⟩ := h
    refine ⟨_, (pss_one (ps_ret (pe_and (pe_call (ok_is_tuple T) (hr.mono (by decide)) (by rfl) T.g_is_tuple T.F_is_tuple.kp T.b_is_tuple .nil pass0 (pa_cons (pv 0) (pa_cons pe_int (pa_cons pe_int pa_nil)))) (pe_and (pe_call (ok_is_name T) (hr.mono (by decide)) (by rfl) T.g_is_name T.F_is_name.kp T.b_is_name .nil pass0 (pa_cons (pe_ix ix_tup (pv 0) pe_int (fun _ _ => rfl)) pa_nil)) (pe_one (pe_call (ok_is_between T) (hr.mono (by decide)) (by rfl) T.g_is_between T.F_is_between.kp T.b_is_between .nil pass0 (pa_cons (pe_ix ix_tup (pv 0) pe_int (fun _ _ => rfl)) (pa_cons pe_int (pa_cons (pe_gq (by rfl) T.q_MOST_SHARED_CELLS) pa_nil))))))))), ?_⟩
    refine ⟨_, rfl, v, d, 2, 2, rfl, hd, _, rfl, ?_⟩
    by_cases ht : tupIn 2 2 d = true
    · rw [ht]
      obtain ⟨da, db, rfl⟩ := tupIn2 ht
      cases hd with
      | @tup a xs ds h r =>
      cases r with
      | @cons va _ _ _ pa r2 =>
      cases r2 with
      | @cons vb _ _ _ pb r3 =>
      cases r3
      have fs := fine_tup hs
      refine iteT ⟨_, rfl, a, [va, vb], 0, va, rfl, rfl, h, rfl, va, da, rfl, pa, fineAll_mem fs (.head _), fun H1 s1 => ⟨_, rfl, ?_⟩⟩
      have e : sharedD (.tuple [da, db]) = (nameD da && numIn 1 16 db) := rfl
      rw [e] at q
      cases hn : nameD da with
      | false =>
        rw [hn] at q
        exact iteF (q _ s1)
      | true =>
      rw [hn, Bool.true_and] at q
      exact iteT ⟨_, rfl, a, [va, vb], 1, vb, rfl, rfl, Same.sqt s1 h, rfl, vb, db, 1, 16, rfl, pb.same s1, q _ s1⟩
    · rw [Bool.eq_false_iff.mpr ht]
      have e : sharedD d = false := by
        unfold sharedD
        split
        · exact absurd rfl ht
        · rfl
      rw [e] at q
      exact iteF (q _ (.refl H))
def firstD : PyData → Str
  | .tuple (.str x :: _) => x
  | _ => ""
def sp_first_word (K : PySem.W.Frag) : Sp := fun vs H Q _ => ∃ (v : V) (d : PyData), vs = [v] ∧ Dp K H v d ∧ Q (.str (firstD d)) H
theorem ok_first_word (T : Tx w K mg) : FnOk P w K mg base CX0 2 T.a_first_word T.d_first_word ["value"] (sp_first_word K) := by
  refine T.F_first_word.ok sc_first_word (fun vs H Q E h => ?_) (fun cdv A outer s H vs Q E hr h => ?_)
  · obtain ⟨v, d, rfl, _⟩ := h
    rfl
  · obtain ⟨v, d, rfl, hd, q⟩ := h
    refine ⟨_, (pss_cons (ps_if (PW.pt (pw_and (pt_val (pe_callB call_isi (by rfl) T.z_isinstance (by decide +kernel) (pa_cons (pv 0) (pa_cons (pe_bltn (v := .ty "tuple") (u := .type "tuple") (by rfl) T.z_tuple (by decide +kernel) rfl) pa_nil)))) (pw_and (pt_cmpR op_gt (pe_callB call_len_seq (by rfl) T.z_len (by decide +kernel) (pa_cons (pv 0) pa_nil)) pe_int (nomark _)) (pw_and1 (pt_val (pe_callB call_isi (by rfl) T.z_isinstance (by decide +kernel) (pa_cons (pe_ix ix_tup (pv 0) pe_int (fun _ _ => rfl)) (pa_cons (pe_bltn (v := .ty "str") (u := .type "str") (by rfl) T.z_str (by decide +kernel) rfl) pa_nil)))))))) (pss_one (ps_ret (pe_ix ix_tup (pv 0) pe_int (fun _ _ => rfl)))) pss_nil)
      (pss_one (ps_ret pe_str))), ?_⟩
    refine ⟨_, rfl, _, _, _, _, _, rfl, .ty "tuple", hd.tyx, kit_tup d, _, rfl, ?_⟩
    cases hd with
    | @tup a xs ds h r =>
      refine iteT ⟨_, rfl, a, xs, rfl, .inr h, _, _, rfl, rfl, _, rfl, ?_⟩
      cases r with
      | nil => exact iteF q
      | @cons va _ da _ pa r2 =>
      rename_i vs ds
      rw [decide_eq_true (by show ((0 : Int) < ((vs.length + 1 : Nat) : Int)); omega)]
      refine iteT ⟨_, rfl, a, _, 0, va, rfl, rfl, h, atI_head, _, _, _, _, _, rfl, .ty "str", pa.tyx, kit_str da, _, rfl, ?_⟩
      cases pa with
      | str x => exact iteT ⟨_, rfl, a, _, 0, _, rfl, rfl, h, atI_head, q⟩
      | int i => exact q
      | bl b => exact q
      | non => exact q
      | tup h r => exact q
      | lst h r => exact q
    | int i => exact q
    | bl b => exact q
    | non => exact q
    | str x => exact q
    | lst h r => exact q
def specials : List Str := ["tid", "bid", "dim", "grid"]
def unaries : List Str := ["neg", "not", "zero"]
def foldings : List Str := ["add", "min", "max", "and", "or", "xor"]
def binaries : List Str := ["add", "sub", "mul", "div", "rem", "and", "or", "xor", "shl", "shr", "lt", "le", "eq", "ne", "min", "max"]
def choices (s : Str) : List Str := if s = "special" then specials else if s = "unary" then unaries else if s = "binary" then binaries else foldings
def sp_is_choice (K : PySem.W.Frag) : Sp := fun vs H Q _ => ∃ (s : Str) (v : V) (d : PyData), vs = [.str s, v] ∧ Dp K H v d ∧ fine d = true ∧ Q (.bl (oneOf (choices s) d)) H
theorem dec_str (s t : Str) : decide (V.str s = V.str t) = decide (s = t) := by
  by_cases h : s = t
  · rw [h, decide_eq_true rfl, decide_eq_true rfl]
  · rw [decide_eq_false h, decide_eq_false (fun e => h (V.str.inj e))]
theorem ok_is_choice (T : Tx w K mg) : FnOk P w K mg base CX0 1 T.a_is_choice T.d_is_choice ["sort", "value"] (sp_is_choice K) := by
  refine T.F_is_choice.ok sc_is_choice (fun vs H Q E h => ?_) (fun cdv A outer s H vs Q E hr h => ?_)
  · obtain ⟨v, d, x, rfl, _⟩ := h
    rfl
  · obtain ⟨v, x, d, rfl, hd, hs, q⟩ := h
    refine ⟨_, (pss_cons (ps_if (pt_cmpR op_eq (pv 0) pe_str (nomark _)) (pss_one (ps_ret (pe_cmpR (op_inT hr.units) (pv 1) (pe_gq (by rfl) T.q_SPECIALS) (by rfl)))) pss_nil)
      (pss_cons (ps_if (pt_cmpR op_eq (pv 0) pe_str (nomark _)) (pss_one (ps_ret (pe_cmpR (op_inT hr.units) (pv 1) (pe_gq (by rfl) T.q_UNARY) (by rfl)))) pss_nil)
      (pss_cons (ps_if (pt_cmpR op_eq (pv 0) pe_str (nomark _)) (pss_one (ps_ret (pe_cmpR (op_inT hr.units) (pv 1) (pe_gq (by rfl) T.q_BINARY) (by rfl)))) pss_nil)
      (pss_one (ps_ret (pe_cmpR (op_inT hr.units) (pv 1) (pe_gq (by rfl) T.q_FOLDING) (by rfl))))))), ?_⟩
    have fl := fine_lay _ hs
    refine ⟨_, rfl, rfl, _, rfl, ?_⟩
    rw [dec_str]
    by_cases h1 : v = "special"
    · rw [decide_eq_true h1]
      rw [show choices v = specials from if_pos h1] at q
      exact iteT ⟨_, rfl, rInT_strs specials hd (.tup (.inr T.t_SPECIALS) (DpAll.strs specials)) fl (by decide +kernel) q⟩
    rw [decide_eq_false h1]
    refine iteF ⟨_, rfl, rfl, _, rfl, ?_⟩
    rw [dec_str]
    by_cases h2 : v = "unary"
    · rw [decide_eq_true h2]
      rw [show choices v = unaries from (if_neg h1).trans (if_pos h2)] at q
      exact iteT ⟨_, rfl, rInT_strs unaries hd (.tup (.inr T.t_UNARY) (DpAll.strs unaries)) fl (by decide +kernel) q⟩
    rw [decide_eq_false h2]
    refine iteF ⟨_, rfl, rfl, _, rfl, ?_⟩
    rw [dec_str]
    by_cases h3 : v = "binary"
    · rw [decide_eq_true h3]
      rw [show choices v = binaries from (if_neg h1).trans ((if_neg h2).trans (if_pos h3))] at q
      exact iteT ⟨_, rfl, rInT_strs binaries hd (.tup (.inr T.t_BINARY) (DpAll.strs binaries)) fl (by decide +kernel) q⟩
    rw [decide_eq_false h3]
    rw [show choices v = foldings from (if_neg h1).trans ((if_neg h2).trans (if_neg h3))] at q
    exact iteF ⟨_, rfl, rInT_strs foldings hd (.tup (.inr T.t_FOLDING) (DpAll.strs foldings)) fl (by decide +kernel) q⟩
theorem paramD_shape {d : PyData} (h : paramD d = true) : ∃ x s, d = .tuple [.str x, .str s] := by
  unfold paramD at h
  split at h
  · next a b =>
    rw [Bool.and_eq_true] at h
    cases a with
    | str x =>
      cases b with
      | str s => exact ⟨x, s, rfl⟩
      | _ => exact absurd h.2 Bool.false_ne_true
    | _ => exact absurd h.1 Bool.false_ne_true
  · cases h
theorem sharedD_shape {d : PyData} (h : sharedD d = true) : ∃ x k, d = .tuple [.str x, .int k] := by
  unfold sharedD at h
  split at h
  · next a b =>
    rw [Bool.and_eq_true] at h
    cases a with
    | str x =>
      cases b with
      | int s => exact ⟨x, s, rfl⟩
      | _ => exact absurd h.2 Bool.false_ne_true
    | _ => exact absurd h.1 Bool.false_ne_true
  · cases h
def look : List (Str × List Str) → Str → Option (List Str)
  | [], _ => none
  | p :: r, z => if p.1 = z then some p.2 else look r z
inductive T2 (K : PySem.W.Frag) : List (Str × V) → List (Str × List Str) → Prop
  | nil : T2 K [] []
  | cons {k : Str} {p : Addr} {ss : List Str} {ps : List (Str × V)} {qs : List (Str × List Str)} : KTup K p (ss.map V.str) → T2 K ps qs → T2 K ((k, .ref p) :: ps) ((k, ss) :: qs)
theorem T2.at : ∀ {ps : List (Str × V)} {qs : List (Str × List Str)} (z : Str), T2 K ps qs → (look qs z = none ∧ tabGet ps z = none) ∨ ∃ ss p, look qs z = some ss ∧ tabGet ps z = some (.ref p) ∧ KTup K p (ss.map V.str)
  | _, _, z, .nil => .inl ⟨rfl, rfl⟩
  | _, _, z, .cons (k := k) (p := p) (ss := ss) (ps := ps) (qs := qs) h r => by
    by_cases e : k = z
    · exact .inr ⟨ss, p, if_pos e, if_pos e, h⟩
    · rcases T2.at z r with ⟨h1, h2⟩ | ⟨ss', p', h1, h2, h3⟩
      · exact .inl ⟨(if_neg e).trans h1, (if_neg e).trans h2⟩
      · exact .inr ⟨ss', p', (if_neg e).trans h1, (if_neg e).trans h2, h3⟩
def exprTab : List (Str × List Str) := [("word", ["word"]), ("name", ["int"]), ("special", ["special"]), ("unary", ["unary", "expression"]), ("binary", ["binary", "expression", "expression"]), ("pick", ["expression", "expression", "expression"]), ("load", ["array", "expression"])]
def stmtTab : List (Str × List Str) := [("let", ["new", "expression"]), ("set", ["int", "expression"]), ("put", ["array", "expression", "expression"]), ("atomic", ["folding", "array", "expression", "expression"]), ("if", ["expression", "body", "body"]), ("while", ["expression", "body"]), ("break", []), ("continue", []), ("return", []), ("barrier", []), ("collect", ["new", "folding", "expression"])]
theorem expr_at (T : Tx w K mg) : ∃ ps, KTab K w T.a_EXPRESSION_PARTS ps ∧ T2 K ps exprTab :=
  ⟨_, T.w_EXPRESSION_PARTS, .cons T.t_EXPRESSION_PARTS_0 (.cons T.t_EXPRESSION_PARTS_1 (.cons T.t_EXPRESSION_PARTS_2 (.cons T.t_EXPRESSION_PARTS_3 (.cons T.t_EXPRESSION_PARTS_4 (.cons T.t_EXPRESSION_PARTS_5 (.cons T.t_EXPRESSION_PARTS_6 .nil))))))⟩
theorem stmt_at (T : Tx w K mg) : ∃ ps, KTab K w T.a_STATEMENT_PARTS ps ∧ T2 K ps stmtTab :=
  ⟨_, T.w_STATEMENT_PARTS, .cons T.t_STATEMENT_PARTS_0 (.cons T.t_STATEMENT_PARTS_1 (.cons T.t_STATEMENT_PARTS_2 (.cons T.t_STATEMENT_PARTS_3 (.cons T.t_STATEMENT_PARTS_4 (.cons T.t_STATEMENT_PARTS_5 (.cons T.t_STATEMENT_PARTS_6 (.cons T.t_STATEMENT_PARTS_7 (.cons T.t_STATEMENT_PARTS_8 (.cons T.t_STATEMENT_PARTS_9 (.cons T.t_STATEMENT_PARTS_10 .nil))))))))))⟩
/-- what is known: names to "int", "array" -/
abbrev Kn := Str → Option Str
def Known (H : Hp) (a : Addr) (g : Kn) : Prop := ∃ kvs, Rd H a (.dK kvs) ∧ ∀ z, valV kvs (.inr z) = (g z).map V.str
theorem Known.same {H H' : Hp} {a : Addr} {g : Kn} (e : Same H H') : Known H a g → Known H' a g
  | ⟨kvs, .inl h, k⟩ => ⟨kvs, .inl (e _ _ h), k⟩
  | ⟨kvs, .inr ⟨o, h⟩, k⟩ => ⟨kvs, .inr ⟨o, e _ _ h⟩, k⟩
theorem Known.get {H : Hp} {a : Addr} {g : Kn} (z : Str) : Known H a g → DGet H a (.str z) ((g z).map V.str)
  | ⟨kvs, h, k⟩ => .inl ⟨kvs, .inr z, h, rfl, (k z).symm⟩
theorem Known.isD {H : Hp} {a : Addr} {g : Kn} : Known H a g → IsD H a
  | ⟨kvs, h, k⟩ => .inl ⟨kvs, h⟩
def newD (g : Kn) : PyData → Bool
  | .str x => nameS x.cps.toList && (g x).isNone
  | _ => false
def knownD (g : Kn) (s : Str) : PyData → Bool
  | .str x => decide (g x = some s)
  | _ => false
def partW (e : PyData → Bool) (g : Kn) (s : Str) (d : PyData) : Bool :=
  if s = "expression" then e d else if s = "word" then wordD d else if s = "new" then newD g d else if s = "int" ∨ s = "array" then knownD g s d else oneOf (choices s) d
def partsW (e : PyData → Bool) (g : Kn) : List Str → List PyData → Bool
  | s :: ss, d :: ds => partW e g s d && partsW e g ss ds
  | _, _ => true
def partsOf (tab : List (Str × List Str)) (f : List Str → List PyData → Bool) : PyData → Bool
  | .tuple (.str x :: ps) => match look tab x with
    | some ss => decide (ps.length = ss.length) && f ss ps
    | none => false
  | _ => false
def exprD (g : Kn) : Nat → PyData → Bool
  | 0 => fun _ => false
  | n + 1 => partsOf exprTab (partsW (exprD g n) g)
def sp_is_part (K : PySem.W.Frag) : Nat → Sp
  | 0 => fun _ _ _ _ => False
  | n + 1 => fun vs H Q _ => ∃ (s : Str) (v : V) (ka : Addr) (d : PyData) (g : Kn), vs = [.str s, v, .ref ka, .int (11 - (n : Int))] ∧ Dp K H v d ∧ fine d = true ∧ Known H ka g ∧ ∀ H', Same H H' → Q (.bl (partW (exprD g n) g s d)) H'
def sp_is_expression (K : PySem.W.Frag) (n : Nat) : Sp := fun vs H Q _ => ∃ (v : V) (ka : Addr) (d : PyData) (g : Kn), vs = [v, .ref ka, .int (11 - (n : Int))] ∧ Dp K H v d ∧ fine d = true ∧ Known H ka g ∧ ∀ H', Same H H' → Q (.bl (exprD g n d)) H'
theorem part_of (T : Tx w K mg) (n : Nat) (he : FnOk P w K mg base CX0 (2 * n + 3) T.a_is_expression T.d_is_expression ["value", "known", "depth"] (sp_is_expression K n)) :
    FnOk P w K mg base CX0 (2 * n + 4) T.a_is_part T.d_is_part ["sort", "value", "known", "depth"] (sp_is_part K (n + 1)) := by
  refine T.F_is_part.ok sc_is_part (fun vs H Q E h => ?_) (fun cdv A outer s H vs Q E hr h => ?_)
  · obtain ⟨x, v, ka, d, g, rfl, _⟩ := h
    rfl
  · obtain ⟨x, v, ka, d, g, rfl, hd, hs, hk, q⟩ := h
    refine ⟨_, (pss_cons (ps_if (pt_cmpR op_eq (pv 0) pe_str (nomark _)) (pss_one (ps_ret (pe_call he (hr.mono (by omega)) (by rfl) T.g_is_expression T.F_is_expression.kp T.b_is_expression .nil pass0 (pa_cons (pv 1) (pa_cons (pv 2) (pa_cons (pv 3) pa_nil)))))) pss_nil)
      (pss_cons (ps_if (pt_cmpR op_eq (pv 0) pe_str (nomark _)) (pss_one (ps_ret (pe_call (ok_is_word T) (hr.mono (by omega)) (by rfl) T.g_is_word T.F_is_word.kp T.b_is_word .nil pass0 (pa_cons (pv 1) pa_nil)))) pss_nil)
      (pss_cons (ps_if (pt_cmpR op_eq (pv 0) pe_str (nomark _)) (pss_one (ps_ret (pe_and (pe_call (ok_is_name T) (hr.mono (by omega)) (by rfl) T.g_is_name T.F_is_name.kp T.b_is_name .nil pass0 (pa_cons (pv 1) pa_nil)) (pe_one (pe_cmp (pc_dnotin (hu_of hr) (pv 1) (pv 2))))))) pss_nil)
      (pss_cons (ps_if (pt_cmpR op_in_seq (pv 0) (pe_tup (pa_cons pe_str (pa_cons pe_str pa_nil))) (by rfl)) (pss_one (ps_ret (pe_and (pe_callB call_isi (by rfl) T.z_isinstance (by decide +kernel) (pa_cons (pv 1) (pa_cons (pe_bltn (v := .ty "str") (u := .type "str") (by rfl) T.z_str (by decide +kernel) rfl) pa_nil))) (pe_one (pe_cmpR op_eq (pe_dget1 (hu_of hr) (pv 2) (pv 1) ⟨rfl, rfl, by decide, rfl⟩) (pv 0) (nomark _)))))) pss_nil)
      (pss_one (ps_ret (pe_call (ok_is_choice T) (hr.mono (by omega)) (by rfl) T.g_is_choice T.F_is_choice.kp T.b_is_choice .nil pass0 (pa_cons (pv 0) (pa_cons (pv 1) pa_nil))))))))), ?_⟩
    refine ⟨_, rfl, rfl, _, rfl, ?_⟩
    rw [dec_str]
    by_cases h1 : x = "expression"
    · rw [decide_eq_true h1]
      rw [show partW (exprD g n) g x d = exprD g n d from if_pos h1] at q
      exact iteT ⟨_, rfl, _, rfl, _, rfl, v, ka, d, g, rfl, hd, hs, hk, q⟩
    rw [decide_eq_false h1]
    refine iteF ⟨_, rfl, rfl, _, rfl, ?_⟩
    rw [dec_str]
    by_cases h2 : x = "word"
    · rw [decide_eq_true h2]
      rw [show partW (exprD g n) g x d = wordD d from (if_neg h1).trans (if_pos h2)] at q
      exact iteT ⟨_, rfl, v, d, rfl, hd, q⟩
    rw [decide_eq_false h2]
    refine iteF ⟨_, rfl, rfl, _, rfl, ?_⟩
    rw [dec_str]
    by_cases h3 : x = "new"
    · rw [decide_eq_true h3]
      rw [show partW (exprD g n) g x d = newD g d from (if_neg h1).trans ((if_neg h2).trans (if_pos h3))] at q
      refine iteT ⟨_, rfl, v, d, rfl, hd, hs, fun H1 s1 => ⟨_, rfl, ?_⟩⟩
      cases hd with
      | str z =>
        have e : newD g (.str z) = (nameS z.cps.toList && (g z).isNone) := rfl
        rw [e] at q
        show ite (nameS z.cps.toList = true) _ _
        cases hn : nameS z.cps.toList with
        | false =>
          rw [hn] at q
          exact iteF (q _ s1)
        | true =>
          rw [hn, Bool.true_and] at q
          refine iteT ⟨_, rfl, _, rfl, ka, _, rfl, (hk.same s1).get z, ?_⟩
          have e2 : (!((g z).map V.str).isSome) = (g z).isNone := by cases g z <;> rfl
          rw [e2]
          exact q _ s1
      | int i => exact iteF (q _ s1)
      | bl b => exact iteF (q _ s1)
      | non => exact iteF (q _ s1)
      | tup h r => exact iteF (q _ s1)
      | lst h r => exact iteF (q _ s1)
    rw [decide_eq_false h3]
    refine iteF ⟨_, rfl, by decide +kernel, fun p np => ?_⟩
    have s1 := same_new5 (o := .tup [.str "int", .str "array"]) np
    refine ⟨p, _, rfl, .inr (SqT.of upd_same), rfl, rfl, _, rfl, ?_⟩
    have ei : inV (.str x) [.str "int", .str "array"] = decide (x = "int" ∨ x = "array") := by
      show (eqV (.str "int") (.str x) || (eqV (.str "array") (.str x) || false)) = _
      show ((("int" : Str) == x) || ((("array" : Str) == x) || false)) = _
      rw [Bool.or_false]
      by_cases a : x = "int"
      · rw [a]; rfl
      · by_cases b : x = "array"
        · rw [b]; rfl
        · rw [decide_eq_false (fun h => h.elim a b), beq_eq_false_iff_ne.mpr (Ne.symm a), beq_eq_false_iff_ne.mpr (Ne.symm b)]; rfl
    rw [ei]
    by_cases h4 : x = "int" ∨ x = "array"
    · rw [decide_eq_true h4]
      rw [show partW (exprD g n) g x d = knownD g x d from (if_neg h1).trans ((if_neg h2).trans ((if_neg h3).trans (if_pos h4)))] at q
      refine iteT ⟨_, rfl, _, _, _, _, _, rfl, .ty "str", (hd.same s1).tyx, kit_str d, _, rfl, ?_⟩
      cases hd with
      | str z =>
        refine iteT ⟨_, rfl, _, rfl, (hk.same s1).isD, _, rfl, _, (hk.same s1).get z, ?_⟩
        have e : decide ((Option.map V.str (g z)).getD V.non = V.str x) = knownD g x (.str z) := by
          show _ = decide (g z = some x)
          cases g z with
          | none => rfl
          | some y =>
            show decide (V.str y = V.str x) = _
            rw [dec_str]
            by_cases h : y = x
            · rw [h, decide_eq_true rfl, decide_eq_true rfl]
            · rw [decide_eq_false h, decide_eq_false (fun e => h (Option.some.inj e))]
        have fl : scal ((Option.map V.str (g z)).getD V.non) (.str x) = true := by cases g z <;> rfl
        exact ⟨_, rfl, fl, by rw [e]; exact q _ s1⟩
      | int i => exact q _ s1
      | bl b => exact q _ s1
      | non => exact q _ s1
      | tup h r => exact q _ s1
      | lst h r => exact q _ s1
    rw [decide_eq_false h4]
    rw [show partW (exprD g n) g x d = oneOf (choices x) d from (if_neg h1).trans ((if_neg h2).trans ((if_neg h3).trans (if_neg h4)))] at q
    exact iteF ⟨_, rfl, _, rfl, x, v, d, rfl, hd.same s1, hs, q _ s1⟩
theorem look_some {tab : List (Str × List Str)} {d : PyData} {ss : List Str} (h0 : look tab "" = none) (h : look tab (firstD d) = some ss) : ∃ x ps, d = .tuple (.str x :: ps) ∧ look tab x = some ss := by
  unfold firstD at h
  split at h
  · exact ⟨_, _, rfl, h⟩
  · rw [h0] at h
    cases h
theorem partsOf_none {tab : List (Str × List Str)} {f : List Str → List PyData → Bool} {d : PyData} (h : look tab (firstD d) = none) : partsOf tab f d = false := by
  unfold partsOf
  split
  · next x ps =>
    have h' : look tab x = none := h
    rw [h']
  · rfl
theorem partsOf_some {tab : List (Str × List Str)} {f : List Str → List PyData → Bool} {x : Str} {ps : List PyData} {ss : List Str} (h : look tab x = some ss) : partsOf tab f (.tuple (.str x :: ps)) = (decide (ps.length = ss.length) && f ss ps) := by
  show (match look tab x with | some ss => decide (ps.length = ss.length) && f ss ps | none => false) = _
  rw [h]
theorem partsW_drop (e : PyData → Bool) (g : Kn) : ∀ (ss : List Str) (ds : List PyData) (i : Nat) (s : Str) (d : PyData), ss[i]? = some s → ds[i]? = some d → partsW e g (ss.drop i) (ds.drop i) = (partW e g s d && partsW e g (ss.drop (i + 1)) (ds.drop (i + 1)))
  | p :: ps, x :: xs, 0, b, d, h1, h2 => by
    cases h1
    cases h2
    rfl
  | p :: ps, x :: xs, i + 1, b, d, h1, h2 => partsW_drop e g ps xs i b d h1 h2
  | [], _, _, _, _, h, _ => by simp at h
  | _ :: _, [], _, _, _, _, h => by simp at h
theorem cut1 {n : Nat} (h : 1 ≤ n) : ¬ (HT.sIx n 0 (some (1 : Int)) = 0 ∧ HT.sIx n n none = n) := by
  rintro ⟨z, _⟩
  rw [show (1 : Int) = ((1 : Nat) : Int) from rfl, HT.sIx_nat] at z
  omega
theorem cutV1 (x : V) (xs : List V) : cutV (x :: xs) (some (1 : Int)) none = xs := by
  unfold cutV
  rw [show (1 : Int) = ((1 : Nat) : Int) from rfl, HT.sIx_nat, HT.sIx_none, List.length_cons, Nat.min_eq_left (by omega)]
  show List.take _ xs = xs
  exact List.take_of_length_le (by omega)
theorem expr_of (T : Tx w K mg) (n : Nat) (hn : n ≤ 11) (hp : FnOk P w K mg base CX0 (2 * n + 2) T.a_is_part T.d_is_part ["sort", "value", "known", "depth"] (sp_is_part K n)) :
    FnOk P w K mg base CX0 (2 * n + 3) T.a_is_expression T.d_is_expression ["value", "known", "depth"] (sp_is_expression K n) := by
  refine T.F_is_expression.ok sc_is_expression (fun vs H Q E h => ?_) (fun cdv A outer s H vs Q E hr h => ?_)
  · obtain ⟨v, ka, d, g, rfl, _⟩ := h
    rfl
  · obtain ⟨v, ka, d, g, rfl, hd, hs, hk, q⟩ := h
    refine ⟨_, (pss_cons (ps_set (i := 3) sc_is_expression.nd rfl (.inl rfl) (pe_kget1 (pe_gq (by rfl) T.q_EXPRESSION_PARTS) (pe_call (ok_first_word T) (hr.mono (by omega)) (by rfl) T.g_first_word T.F_first_word.kp T.b_first_word .nil pass0 (pa_cons (pv 0) pa_nil)) ⟨rfl, rfl, by decide, rfl⟩))
      (pss_cons (ps_if (PW.pt (pw_or (pt_cmpR op_isN (pv 3) pe_non (nomark _)) (pw_or (pt_cmpR op_ne (pe_callB call_len_seq (by rfl) T.z_len (by decide +kernel) (pa_cons (pv 0) pa_nil)) (pe_op op_add pe_int (pe_callB call_len_seq (by rfl) T.z_len (by decide +kernel) (pa_cons (pv 3) pa_nil))) (nomark _)) (pw_or1 (pt_cmpR op_gt (pv 2) (pe_gq (by rfl) T.q_DEEPEST_EXPRESSION) (nomark _)))))) (pss_one (ps_ret pe_bl)) pss_nil)
      (pss_cons (ps_for PassesOwn.never rfl (RZ.pi_zipA (by rfl) T.z_zip (pa_cons (pv 3) (pa_cons (pe_slice sl_tup (pv 0) (po_some pe_int) po_none) pa_nil))) (pg_tup rfl (pgs_cons (pg_name (i := 4) sc_is_expression.nd rfl (.inl rfl)) (pgs_cons (pg_name (i := 5) sc_is_expression.nd rfl (.inl rfl)) pgs_nil))) (pss_one (ps_if (pt_not (pt_val (pe_call hp (hr.mono (by omega)) (by rfl) T.g_is_part T.F_is_part.kp T.b_is_part .nil pass0 (pa_cons (pv 4) (pa_cons (pv 5) (pa_cons (pv 1) (pa_cons (pe_op op_add (pv 2) pe_int) pa_nil))))))) (pss_one (ps_ret pe_bl)) pss_nil)))
      (pss_one (ps_ret pe_bl))))), ?_⟩
    obtain ⟨ps, hT, hT2⟩ := expr_at T
    refine ⟨_, ps, rfl, hT, _, rfl, v, d, rfl, hd, firstD d, rfl, ?_⟩
    rcases hT2.at (firstD d) with ⟨l1, l2⟩ | ⟨ss, p, l1, l2, hp2⟩
    · rw [l2]
      have e : exprD g n d = false := by
        cases n with
        | zero => rfl
        | succ m => exact partsOf_none l1
      rw [e] at q
      refine ⟨_, rfl, rfl, _, rfl, iteT (q _ (.refl H))⟩
    · rw [l2]
      obtain ⟨x, ds, rfl, lx⟩ := look_some (by decide +kernel) l1
      cases hd with
      | @tup a xs _ h r =>
      cases r with
      | @cons v0 vs _ _ p0 r2 =>
      cases p0
      have hK : SqT K H p (ss.map V.str) := .inr hp2
      have evl : vs.length = ds.length := r2.len
      refine ⟨_, rfl, rfl, _, rfl, iteF ⟨_, rfl, a, _, rfl, .inr h, _, rfl, p, _, rfl, .inr hK, _, _, rfl, rfl, rfl, _, rfl, ?_⟩⟩
      have ec : (!decide (V.int (((V.str x :: vs).length : Nat) : Int) = V.int (1 + (((ss.map V.str).length : Nat) : Int)))) = !decide (ds.length = ss.length) := by
        rw [List.length_cons, List.length_map, evl]
        by_cases hh : ds.length = ss.length
        · rw [hh, decide_eq_true (by rw [show ((ss.length + 1 : Nat) : Int) = 1 + (ss.length : Int) by omega]), decide_eq_true rfl]
        · rw [decide_eq_false hh, decide_eq_false (fun z => hh (by have := V.int.inj z; omega))]
      rw [ec]
      by_cases hl : ds.length = ss.length
      · rw [decide_eq_true hl]
        refine iteF ⟨_, rfl, _, _, rfl, rfl, _, rfl, ?_⟩
        cases n with
        | zero => exact iteT (q _ (.refl H))
        | succ m =>
        rw [decide_eq_false (by omega)]
        have e : exprD g (m + 1) (.tuple (.str x :: ds)) = partsW (exprD g m) g ss ds := by
          show partsOf exprTab _ _ = _
          rw [partsOf_some lx, decide_eq_true hl, Bool.true_and]
        rw [e] at q
        refine iteF ⟨_, rfl, _, rfl, _, rfl, ?_⟩
        dsimp only [tNoPart]
        refine ⟨a, .str x :: vs, rfl, h, cut1 (by rw [List.length_cons]; omega), fun r nr => ?_⟩
        rw [cutV1]
        have sr := same_new5 (o := .tup vs) nr
        have hR : SqT K (upd H r (.tup vs)) r vs := SqT.of upd_same
        have evs : (ss.map V.str).length = vs.length := by rw [List.length_map, evl, hl]
        have fs := fine_tup hs
        refine ⟨p, r, _, _, rfl, .inr ⟨Same.sqt sr hK, hR, ?_⟩⟩
        show ∃ W : Nat → Nat → L2.St → Hp → Prop, (∃ m', W 0 m' [some (.ref a), some (.ref ka), some (.int (11 - ((m + 1 : Nat) : Int))), some (.ref p), none, none] (L2.upd H r (.tup vs))) ∧ _
        refine RZ.for_zipT (K := K) (a := p) (b := r) (xs := ss.map V.str) (ys := vs) (D := ⟨tRet (tC (.bl true)) ⟨fun _ H' => Q .non H', Q, fun _ _ => False, fun _ _ => False⟩, Q, fun _ _ => False, fun _ _ => False⟩) evs
          (fun i σ H' => ∃ y4 y5 : Option V, σ = [some (.ref a), some (.ref ka), some (.int (11 - ((m + 1 : Nat) : Int))), some (.ref p), y4, y5] ∧ partsW (exprD g m) g ss ds = partsW (exprD g m) g (ss.drop i) (ds.drop i) ∧ Same (upd H r (.tup vs)) H')
          ⟨none, none, rfl, rfl, .refl _⟩ (fun i σ H' ⟨_, _, _, _, e⟩ => ⟨Same.sqt (sr.trans e) hK, Same.sqt e hR⟩) ?_ ?_
        · rintro i x1 y1 t σ H1 hx hy ⟨y4, y5, rfl, ea, sm⟩ nt
          rw [List.getElem?_map] at hx
          obtain ⟨s1, es1, rfl⟩ := Option.map_eq_some_iff.mp hx
          obtain ⟨dy, edy, pdy⟩ := r2.get hy
          have st := (sr.trans sm).trans (same_new5 (o := .tup [.str s1, y1]) nt)
          refine ⟨t, _, rfl, SqT.of upd_same, rfl, _, _, rfl, ?_⟩
          refine ⟨_, _, rfl, rfl, ?_⟩
          refine ⟨_, rfl, _, rfl, _, rfl, _, rfl, _, _, rfl, rfl, s1, y1, ka, dy, g, ?_, pdy.same st, fineAll_mem fs (.tail _ (List.mem_of_getElem? edy)), hk.same st, fun H2 s2 => ⟨_, rfl, ?_⟩⟩
          · show [V.str s1, y1, V.ref ka, V.int (11 - ((m + 1 : Nat) : Int) + 1)] = _
            rw [show (11 : Int) - ((m + 1 : Nat) : Int) + 1 = 11 - (m : Int) by omega]
          have ed := partsW_drop (exprD g m) g _ _ i s1 dy es1 edy
          by_cases hg : partW (exprD g m) g s1 dy = true
          · rw [hg]
            refine iteF ⟨_, _, rfl, ?_, (sm.trans (same_new5 nt)).trans s2⟩
            rw [ea, ed, hg, Bool.true_and]
          · rw [Bool.eq_false_iff.mpr hg]
            rw [ea, ed, Bool.eq_false_iff.mpr hg, Bool.false_and] at q
            exact iteT (q _ (st.trans s2))
        · rintro σ H1 ⟨y4, y5, rfl, ea, sm⟩
          rw [List.length_map, List.drop_length, ← hl, List.drop_length] at ea
          rw [ea] at q
          exact q _ (sr.trans sm)
      · rw [decide_eq_false hl]
        have e : exprD g n (.tuple (.str x :: ds)) = false := by
          cases n with
          | zero => rfl
          | succ m =>
            show partsOf exprTab _ _ = _
            rw [partsOf_some lx, decide_eq_false hl, Bool.false_and]
        rw [e] at q
        exact iteT (q _ (.refl H))
theorem ok_both (T : Tx w K mg) : ∀ n : Nat, n ≤ 11 → FnOk P w K mg base CX0 (2 * n + 2) T.a_is_part T.d_is_part ["sort", "value", "known", "depth"] (sp_is_part K n) ∧
    FnOk P w K mg base CX0 (2 * n + 3) T.a_is_expression T.d_is_expression ["value", "known", "depth"] (sp_is_expression K n)
  | 0, h => have hp := T.F_is_part.ok sc_is_part (fun vs H Q E h => h.elim) (fun cdv A outer s H vs Q E hr h => h.elim); ⟨hp, expr_of T 0 h hp⟩
  | n + 1, h => have hp := part_of T n (ok_both T n (by omega)).2; ⟨hp, expr_of T (n + 1) h hp⟩
def putKn (g : Kn) (x v : Str) : Kn := fun z => if z = x then some v else g z
/-- a walk that has passed c -/
def Wlk (T : Tx w K mg) (H : Hp) (a : Addr) (c : Int) : Prop := ∃ dx, H a = some (.ins T.c_Walk dx [("passed", .int c)])
def Mw (a : Addr) : Addr → Prop := fun b => b = a
theorem ok_init (T : Tx w K mg) : FnOk P w K mg base CX0 1 T.a_init T.d_init ["self"] (fun vs H Q _ => ∃ a dx, vs = [.ref a] ∧ H a = some (.ins T.c_Walk dx []) ∧ ∀ H', H' = upd H a (.ins T.c_Walk dx [("passed", .int 0)]) → Q .non H') := by
  refine T.F_init.ok sc_init (fun vs H Q E h => ?_) (fun cdv A outer s H vs Q E hr h => ?_)
  · obtain ⟨a, dx, rfl, _⟩ := h
    rfl
  · obtain ⟨a, dx, rfl, h, q⟩ := h
    refine ⟨_, (pss_one (ps_fld (pv 0) pe_int rfl)), ?_⟩
    exact ⟨_, rfl, a, _, dx, [], rfl, h, T.cl_Walk, T.n_Walk_passed, by decide, q _ rfl⟩
theorem Dp.dt {M : Addr → Prop} {K : PySem.W.Frag} {H : Hp} (m : ∀ b, M b → H b = none) : ∀ {v : V} {d : PyData}, Dp K H v d → Dt M K H v d := by
  have sq : ∀ {a : Addr} {xs : List V}, SqL K H a xs → SqLM M K H a xs := fun h => h.elim (fun h => .inl ⟨fun z => h.some (m _ z), h⟩) .inr
  have st : ∀ {a : Addr} {xs : List V}, SqT K H a xs → SqTM M K H a xs := fun h => h.elim (fun h => .inl ⟨fun z => h.some (m _ z), h⟩) .inr
  intro v d h
  exact Dp.rec (motive_1 := fun v d _ => Dt M K H v d) (motive_2 := fun vs ds _ => DtAll M K H vs ds) .non .bl .int .str (fun h _ r => .lst (sq h) r) (fun h _ r => .tup (st h) r) .nil (fun _ _ h r => .cons h r) h
def KnownN (H : Hp) (a : Addr) (g : Kn) (n : Nat) : Prop := ∃ kvs, H a = some (.dK kvs) ∧ kvs.length ≤ n ∧ ∀ z, valV kvs (.inr z) = (g z).map V.str
theorem KnownN.known {H : Hp} {a : Addr} {g : Kn} {n : Nat} : KnownN H a g n → Known H a g
  | ⟨kvs, h, _, k⟩ => ⟨kvs, .inl h, k⟩
theorem KnownN.off {M : Addr → Prop} {H H' : Hp} {a : Addr} {g : Kn} {n m : Nat} (e : Off M H H') (na : ¬ M a) (hm : n ≤ m) : KnownN H a g n → KnownN H' a g m
  | ⟨kvs, h, l, k⟩ => ⟨kvs, e _ _ na h, Nat.le_trans l hm, k⟩
theorem KnownN.ne {T : Tx w K mg} {H : Hp} {a ka : Addr} {g : Kn} {n : Nat} {c : Int} (k : KnownN H ka g n) (h : Wlk T H a c) : ¬ Mw a ka := fun e => by
  obtain ⟨dx, h⟩ := h
  obtain ⟨kvs, h2, _⟩ := k
  cases e
  rw [h] at h2
  cases h2
def partsS (bd : PyData → Nat → Option Nat) (g : Kn) : List Str → List PyData → Nat → Option Nat
  | s :: ss, d :: ds, c => (if s = "body" then bd d c else if partW (exprD g 10) g s d = true then some c else none).bind (partsS bd g ss ds)
  | _, _, c => some c
def stmtP (bd : Bool → Kn → PyData → Nat → Option Nat) (lp : Bool) (g : Kn) (d : PyData) (c : Nat) : Option Nat := match d with
  | .tuple (.str x :: ps) => match look stmtTab x with
    | some ss => if ps.length = ss.length ∧ c + 1 ≤ 100 ∧ ¬ ((x = "break" ∨ x = "continue") ∧ lp = false) then partsS (bd (lp || decide (x = "while")) g) g ss ps (c + 1) else none
    | none => none
  | _ => none
def nextKn (g : Kn) : PyData → Kn
  | .tuple (.str x :: .str z :: _) => if x = "let" ∨ x = "collect" then putKn g z "int" else g
  | _ => g
def stmtsW (st : Kn → PyData → Nat → Option Nat) : Kn → List PyData → Nat → Option Nat
  | _, [], c => some c
  | g, d :: ds, c => (st g d c).bind (stmtsW st (nextKn g d) ds)
def bodyP (st : Kn → PyData → Nat → Option Nat) (g : Kn) : PyData → Nat → Option Nat
  | .tuple ds, c => stmtsW st g ds c
  | _, _ => none
def bodyD : Nat → Bool → Kn → PyData → Nat → Option Nat
  | 0 => fun _ _ _ _ => none
  | n + 1 => fun lp g d c => bodyP (stmtP (bodyD n) lp) g d c
/-- what is left of a walk's answer -/
def Post (T : Tx w K mg) (H : Hp) (a : Addr) (r : Option Nat) (Q : VK) : Prop := ∀ H', Off (Mw a) H H' → (∀ c : Nat, r = some c → Wlk T H' a c) → Q (.bl r.isSome) H'
def sp_is_body (T : Tx w K mg) (n : Nat) : Sp := fun vs H Q _ => ∃ (a : Addr) (v : V) (ka : Addr) (d : PyData) (g : Kn) (lp : Bool) (c : Nat), vs = [.ref a, v, .ref ka, .int (11 - (n : Int)), .bl lp] ∧ Wlk T H a c ∧ Dt (Mw a) K H v d ∧ fine d = true ∧ KnownN H ka g (9 + c) ∧ c ≤ 100 ∧ Post T H a (bodyD n lp g d c) Q
def sp_is_statement (T : Tx w K mg) (n : Nat) : Sp := fun vs H Q _ => ∃ (a : Addr) (v : V) (ka : Addr) (d : PyData) (g : Kn) (lp : Bool) (c : Nat), vs = [.ref a, v, .ref ka, .int (10 - (n : Int)), .bl lp] ∧ Wlk T H a c ∧ Dt (Mw a) K H v d ∧ fine d = true ∧ KnownN H ka g (9 + c) ∧ c ≤ 100 ∧ Post T H a (stmtP (bodyD n) lp g d c) Q
theorem stmtP_none {bd : Bool → Kn → PyData → Nat → Option Nat} {lp : Bool} {g : Kn} {d : PyData} {c : Nat} (h : look stmtTab (firstD d) = none) : stmtP bd lp g d c = none := by
  unfold stmtP
  split
  · next x ps =>
    have h' : look stmtTab x = none := h
    rw [h']
  · rfl
theorem stmtP_some {bd : Bool → Kn → PyData → Nat → Option Nat} {lp : Bool} {g : Kn} {x : Str} {ps : List PyData} {ss : List Str} {c : Nat} (h : look stmtTab x = some ss) :
    stmtP bd lp g (.tuple (.str x :: ps)) c = if ps.length = ss.length ∧ c + 1 ≤ 100 ∧ ¬ ((x = "break" ∨ x = "continue") ∧ lp = false) then partsS (bd (lp || decide (x = "while")) g) g ss ps (c + 1) else none := by
  show (match look stmtTab x with | some ss => _ | none => none) = _
  rw [h]
theorem Post.no {T : Tx w K mg} {H H' : Hp} {a : Addr} {Q : VK} {r : Option Nat} (q : Post T H a r Q) (e : r = none) (o : Off (Mw a) H H') : Q (.bl false) H' := by
  subst e
  exact q H' o (fun _ h => by cases h)
theorem Post.yes {T : Tx w K mg} {H H' : Hp} {a : Addr} {Q : VK} {r : Option Nat} {c : Nat} (q : Post T H a r Q) (e : r = some c) (o : Off (Mw a) H H') (h : Wlk T H' a c) : Q (.bl true) H' := by
  subst e
  exact q H' o (fun _ e => by cases e; exact h)
theorem iteN {c : Prop} [Decidable c] {A B : Prop} (h : ¬ c) (b : B) : if c then A else B := by rw [if_neg h]; exact b
theorem iteY {c : Prop} [Decidable c] {A B : Prop} (h : c) (b : A) : if c then A else B := by rw [if_pos h]; exact b
theorem inV2 (x a b : Str) : inV (.str x) [.str a, .str b] = decide (x = a ∨ x = b) := by
  show ((a == x) || ((b == x) || false)) = _
  rw [Bool.or_false]
  by_cases h1 : x = a
  · rw [decide_eq_true (.inl h1), h1, beq_self_eq_true]; rfl
  · by_cases h2 : x = b
    · rw [decide_eq_true (.inr h2), h2, beq_self_eq_true, Bool.or_true]
    · rw [decide_eq_false (fun h => h.elim h1 h2), beq_eq_false_iff_ne.mpr (Ne.symm h1), beq_eq_false_iff_ne.mpr (Ne.symm h2)]; rfl
def Grows (f : PyData → Nat → Option Nat) : Prop := ∀ d c c', f d c = some c' → c ≤ c' ∧ (c ≤ 100 → c' ≤ 100)
theorem partsS_le {bd : PyData → Nat → Option Nat} {g : Kn} (hb : Grows bd) : ∀ (ss : List Str) (ds : List PyData) (c c' : Nat), partsS bd g ss ds c = some c' → c ≤ c' ∧ (c ≤ 100 → c' ≤ 100)
  | s :: ss, d :: ds, c, c', h => by
    unfold partsS at h
    obtain ⟨c1, h1, h2⟩ := Option.bind_eq_some_iff.mp h
    have r := partsS_le hb ss ds c1 c' h2
    have r1 : c ≤ c1 ∧ (c ≤ 100 → c1 ≤ 100) := by
      split at h1
      · exact hb _ _ _ h1
      · split at h1
        · cases h1; exact ⟨Nat.le_refl _, id⟩
        · cases h1
    exact ⟨Nat.le_trans r1.1 r.1, fun z => r.2 (r1.2 z)⟩
  | [], _, c, c', h => by unfold partsS at h; cases h; exact ⟨Nat.le_refl _, id⟩
  | _ :: _, [], c, c', h => by unfold partsS at h; cases h; exact ⟨Nat.le_refl _, id⟩
theorem stmtP_le {bd : Bool → Kn → PyData → Nat → Option Nat} (hb : ∀ lp g, Grows (bd lp g)) {lp : Bool} {g : Kn} {d : PyData} {c c' : Nat} (h : stmtP bd lp g d c = some c') : c + 1 ≤ c' ∧ c' ≤ 100 := by
  unfold stmtP at h
  split at h
  · split at h
    · split at h
      · next z =>
        have r := partsS_le (hb _ _) _ _ _ _ h
        exact ⟨r.1, r.2 z.2.1⟩
      · cases h
    · cases h
  · cases h
theorem stmtsW_le {st : Kn → PyData → Nat → Option Nat} (hs : ∀ g d c c', st g d c = some c' → c + 1 ≤ c' ∧ c' ≤ 100) : ∀ (g : Kn) (ds : List PyData) (c c' : Nat), stmtsW st g ds c = some c' → c ≤ c' ∧ (c ≤ 100 → c' ≤ 100)
  | g, [], c, c', h => by unfold stmtsW at h; cases h; exact ⟨Nat.le_refl _, id⟩
  | g, d :: ds, c, c', h => by
    unfold stmtsW at h
    obtain ⟨c1, h1, h2⟩ := Option.bind_eq_some_iff.mp h
    have r := stmtsW_le hs _ ds c1 c' h2
    have r1 := hs _ _ _ _ h1
    exact ⟨by omega, fun _ => r.2 r1.2⟩
theorem partsS_drop (bd : PyData → Nat → Option Nat) (g : Kn) : ∀ (ss : List Str) (ds : List PyData) (i : Nat) (s : Str) (d : PyData) (c : Nat), ss[i]? = some s → ds[i]? = some d →
    partsS bd g (ss.drop i) (ds.drop i) c = (if s = "body" then bd d c else if partW (exprD g 10) g s d = true then some c else none).bind (partsS bd g (ss.drop (i + 1)) (ds.drop (i + 1)))
  | p :: ps, x :: xs, 0, b, d, c, h1, h2 => by
    cases h1
    cases h2
    rfl
  | p :: ps, x :: xs, i + 1, b, d, c, h1, h2 => partsS_drop bd g ps xs i b d c h1 h2
  | [], _, _, _, _, _, h, _ => by simp at h
  | _ :: _, [], _, _, _, _, _, h => by simp at h
theorem bodyD_le : ∀ (n : Nat) (lp : Bool) (g : Kn), Grows (bodyD n lp g)
  | 0, _, _ => fun _ _ _ h => by cases h
  | n + 1, lp, g => fun d c c' h => by
    replace h : bodyP (stmtP (bodyD n) lp) g d c = some c' := h
    unfold bodyP at h
    split at h
    · exact stmtsW_le (fun g d c c' h => stmtP_le (bodyD_le n) h) _ _ _ _ h
    · cases h
theorem stmtP_shape {bd : Bool → Kn → PyData → Nat → Option Nat} {lp : Bool} {g : Kn} {d : PyData} {c c' : Nat} (h : stmtP bd lp g d c = some c') :
    ∃ x ps, d = .tuple (.str x :: ps) ∧ (x = "let" ∨ x = "collect" → ∃ z qs, ps = .str z :: qs) := by
  unfold stmtP at h
  split at h
  · next x ps =>
    refine ⟨x, ps, rfl, fun hx => ?_⟩
    have hl : ∃ (s : Str) (ss : List Str), look stmtTab x = some (("new" : Str) :: s :: ss) := by
      rcases hx with rfl | rfl
      · exact ⟨"expression", [], by kernel_rfl⟩
      · exact ⟨"folding", ["expression"], by kernel_rfl⟩
    obtain ⟨s, ss, hl⟩ := hl
    rw [hl] at h
    dsimp only at h
    split at h
    · next z =>
      cases ps with
      | nil => exact absurd z.1 (by simp)
      | cons p0 qs =>
        unfold partsS at h
        obtain ⟨c1, h1, h2⟩ := Option.bind_eq_some_iff.mp h
        rw [if_neg (by decide +kernel)] at h1
        split at h1
        · next hp =>
          have hn : partW (exprD g 10) g "new" p0 = newD g p0 := (if_neg (by decide +kernel)).trans ((if_neg (by decide +kernel)).trans (if_pos rfl))
          rw [hn] at hp
          cases p0 with
          | str zz => exact ⟨zz, qs, rfl⟩
          | _ => cases hp
        · cases h1
    · cases h
  · cases h
theorem nextKn_no {g : Kn} {x : Str} {ps : List PyData} (h : ¬ (x = "let" ∨ x = "collect")) : nextKn g (.tuple (.str x :: ps)) = g := by
  unfold nextKn
  split
  · next z => cases z; exact if_neg h
  · rfl
theorem nextKn_yes {g : Kn} {x z : Str} {ps : List PyData} (h : x = "let" ∨ x = "collect") : nextKn g (.tuple (.str x :: .str z :: ps)) = putKn g z "int" := if_pos h
theorem stmtsW_drop (st : Kn → PyData → Nat → Option Nat) : ∀ (ds : List PyData) (i : Nat) (g : Kn) (d : PyData) (c : Nat), ds[i]? = some d → stmtsW st g (ds.drop i) c = (st g d c).bind (stmtsW st (nextKn g d) (ds.drop (i + 1)))
  | x :: xs, 0, g, d, c, h => by cases h; rfl
  | x :: xs, i + 1, g, d, c, h => stmtsW_drop st xs i g d c h
  | [], _, _, _, _, h => by simp at h
theorem st_of (T : Tx w K mg) (n : Nat) (hbo : FnOk P w K mg base CX0 (2 * n + 30) T.a_is_body T.d_is_body ["self", "value", "known", "depth", "looped"] (sp_is_body T n)) :
    FnOk P w K mg base CX0 (2 * n + 31) T.a_is_statement T.d_is_statement ["self", "value", "known", "depth", "looped"] (sp_is_statement T n) := by
  refine T.F_is_statement.ok sc_is_statement (fun vs H Q E h => ?_) (fun cdv A outer s H vs Q E hr h => ?_)
  · obtain ⟨a, v, ka, d, g, lp, c, rfl, _⟩ := h
    rfl
  · obtain ⟨a, v, ka, d, g, lp, c, rfl, ⟨dx, hw⟩, hd, hs, hk, hc, q⟩ := h
    refine ⟨_, (pss_cons (ps_fldaug (pv 0) pe_int in_add)
      (pss_cons (ps_set (i := 5) sc_is_statement.nd rfl (.inl rfl) (pe_call (ok_first_word T) (hr.mono (by omega)) (by rfl) T.g_first_word T.F_first_word.kp T.b_first_word .nil pass0 (pa_cons (pv 1) pa_nil)))
      (pss_cons (ps_set (i := 6) sc_is_statement.nd rfl (.inl rfl) (pe_kget1 (pe_gq (by rfl) T.q_STATEMENT_PARTS) (pv 5) ⟨rfl, rfl, by decide, rfl⟩))
      (pss_cons (ps_if (PW.pt (pw_or (pt_cmpR op_isN (pv 6) pe_non (nomark _)) (pw_or (pt_cmpR op_ne (pe_callB call_len_seq (by rfl) T.z_len (by decide +kernel) (pa_cons (pv 1) pa_nil)) (pe_op op_add pe_int (pe_callB call_len_seq (by rfl) T.z_len (by decide +kernel) (pa_cons (pv 6) pa_nil))) (nomark _)) (pw_or1 (pt_cmpR op_gt (pe_fld (pv 0) rfl) (pe_gq (by rfl) T.q_MOST_STATEMENTS) (nomark _)))))) (pss_one (ps_ret pe_bl)) pss_nil)
      (pss_cons (ps_if (PW.pt (pw_and (pt_cmpR op_in_seq (pv 5) (pe_tup (pa_cons pe_str (pa_cons pe_str pa_nil))) (by rfl)) (pw_and1 (pt_not (pt_truth (pv 4) (by intro _; rfl)))))) (pss_one (ps_ret pe_bl)) pss_nil)
      (pss_cons (ps_for PassesOwn.never rfl (RZ.pi_zipA (by rfl) T.z_zip (pa_cons (pv 6) (pa_cons (pe_slice sl_tup (pv 1) (po_some pe_int) po_none) pa_nil))) (pg_tup rfl (pgs_cons (pg_name (i := 7) sc_is_statement.nd rfl (.inl rfl)) (pgs_cons (pg_name (i := 8) sc_is_statement.nd rfl (.inl rfl)) pgs_nil))) (C8.pss_cut (ps_if (pt_cmpR op_eq (pv 7) pe_str (nomark _)) (pss_one (ps_set (i := 9) sc_is_statement.nd rfl (.inl rfl) (pe_meth (pv 0) T.cl_Walk T.m_is_body hbo (hr.mono (by omega)) T.b_is_body .nil pass0 (pa_cons (pv 8) (pa_cons (pv 2) (pa_cons (pe_op op_add (pv 3) pe_int) (pa_cons (pe_or (pv 4) (pe_one (pe_cmpR op_eq (pv 5) pe_str (nomark _)))) pa_nil))))))) (pss_one (ps_set (i := 9) sc_is_statement.nd rfl (.inl rfl) (pe_call (ok_both T 11 (by decide)).1 (hr.mono (by omega)) (by rfl) T.g_is_part T.F_is_part.kp T.b_is_part .nil pass0 (pa_cons (pv 7) (pa_cons (pv 8) (pa_cons (pv 2) (pa_cons pe_int pa_nil))))))))
      (pss_one (ps_if (pt_not (pt_truth (pv 9) (by intro _; rfl))) (pss_one (ps_ret pe_bl)) pss_nil))))
      (pss_one (ps_ret pe_bl)))))))), ?_⟩
    refine ⟨_, rfl, a, T.c_Walk, dx, _, _, rfl, hw, T.cl_Walk, T.n_Walk_passed, rfl, _, _, rfl, rfl, dx, _, hw, (by show 1 < 1000; decide), ?_⟩
    have hw1 : Wlk T (L2.upd H a (.ins T.c_Walk dx (putF "passed" (.int ((c : Int) + 1)) [("passed", .int c)]))) a ((c + 1 : Nat) : Int) := ⟨dx, upd_same⟩
    have o1 : Off (Mw a) H (L2.upd H a (.ins T.c_Walk dx (putF "passed" (.int ((c : Int) + 1)) [("passed", .int c)]))) := fun b o nb e => (upd_ne nb).trans e
    generalize L2.upd H a (.ins T.c_Walk dx (putF "passed" (.int ((c : Int) + 1)) [("passed", .int c)])) = H1 at hw1 o1 ⊢
    have hd1 := hd.off o1
    have hna : ¬ Mw a ka := KnownN.ne (T := T) hk ⟨dx, hw⟩
    have hk1 : KnownN H1 ka g (9 + (c + 1)) := hk.off o1 hna (by omega)
    obtain ⟨ps, hT, hT2⟩ := stmt_at T
    refine ⟨_, rfl, v, d, rfl, hd1.dp, _, ps, rfl, hT, _, rfl, firstD d, rfl, ?_⟩
    rcases hT2.at (firstD d) with ⟨l1, l2⟩ | ⟨ss, p, l1, l2, hp2⟩
    · rw [l2]
      exact ⟨_, rfl, rfl, _, rfl, iteT (q.no (stmtP_none l1) o1)⟩
    · rw [l2]
      obtain ⟨x, ds, rfl, lx⟩ := look_some (by decide +kernel) l1
      cases hd1 with
      | @tup a2 xs _ h r =>
      cases r with
      | @cons v0 vs _ _ p0 r2 =>
      cases p0
      have hK : SqT K H1 p (ss.map V.str) := .inr hp2
      have evl : vs.length = ds.length := r2.len
      refine ⟨_, rfl, rfl, _, rfl, iteF ⟨_, rfl, a2, _, rfl, .inr h.sq, _, rfl, p, _, rfl, .inr hK, _, _, rfl, rfl, rfl, _, rfl, ?_⟩⟩
      have ec : (!decide (V.int (((V.str x :: vs).length : Nat) : Int) = V.int (1 + (((ss.map V.str).length : Nat) : Int)))) = !decide (ds.length = ss.length) := by
        rw [List.length_cons, List.length_map, evl]
        by_cases hh : ds.length = ss.length
        · rw [hh, decide_eq_true (by rw [show ((ss.length + 1 : Nat) : Int) = 1 + (ss.length : Int) by omega]), decide_eq_true rfl]
        · rw [decide_eq_false hh, decide_eq_false (fun z => hh (by have := V.int.inj z; omega))]
      rw [ec]
      have es := stmtP_some (bd := bodyD n) (lp := lp) (g := g) (ps := ds) (c := c) lx
      by_cases hl : ds.length = ss.length
      · rw [decide_eq_true hl]
        obtain ⟨dx1, hw1'⟩ := hw1
        refine iteF ⟨_, rfl, a, T.c_Walk, dx1, _, _, rfl, hw1', T.cl_Walk, T.n_Walk_passed, rfl, _, _, rfl, rfl, _, rfl, ?_⟩
        by_cases hc1 : c + 1 ≤ 100
        · rw [decide_eq_false (by omega)]
          have hw1 : Wlk T H1 a ((c + 1 : Nat) : Int) := ⟨dx1, hw1'⟩
          refine iteF ⟨_, rfl, by decide +kernel, fun t nt => ⟨t, _, rfl, .inr (SqT.of upd_same), rfl, rfl, _, rfl, ?_⟩⟩
          have ei : inV (V.str (firstD (.tuple (.str x :: ds)))) [.str "break", .str "continue"] = decide (x = "break" ∨ x = "continue") := inV2 x _ _
          rw [ei]
          have st1 := same_new5 (o := .tup [.str "break", .str "continue"]) nt
          by_cases hbad : (x = "break" ∨ x = "continue") ∧ lp = false
          · have hn : stmtP (bodyD n) lp g (.tuple (.str x :: ds)) c = none := es.trans (if_neg (fun z => z.2.2 hbad))
            refine iteY (decide_eq_true hbad.1) ⟨_, rfl, lp, rfl, ?_⟩
            rw [hbad.2]
            exact iteT (q.no hn (o1.trans (.of st1)))
          have es2 := es.trans (if_pos ⟨hl, hc1, hbad⟩)
          rw [es2] at q
          have hcs : ((x = "break" ∨ x = "continue") ∧ lp = true) ∨ ¬ (x = "break" ∨ x = "continue") := by
            by_cases hb : x = "break" ∨ x = "continue"
            · exact .inl ⟨hb, by cases lp; exact absurd ⟨hb, rfl⟩ hbad; rfl⟩
            · exact .inr hb
          generalize L2.upd H1 t (.tup [.str "break", .str "continue"]) = H2 at st1 ⊢
          have o2 := o1.trans (Off.of (M := Mw a) st1)
          have h2 : SqTM (Mw a) K H2 a2 (V.str x :: vs) := h.off (.of st1)
          have r22 : DtAll (Mw a) K H2 vs ds := r2.off (.of st1)
          obtain ⟨dx2, hw2'⟩ := hw1
          have hw2 : Wlk T H2 a ((c + 1 : Nat) : Int) := ⟨dx2, st1 _ _ hw2'⟩
          have hk2 : KnownN H2 ka g (9 + (c + 1)) := hk1.off (Off.of (M := Mw a) st1) hna (Nat.le_refl _)
          rcases hcs with ⟨hb, hlp⟩ | hb
          all_goals first
            | refine iteY (decide_eq_true hb) ⟨_, rfl, lp, rfl, iteN (by rw [hlp]; exact Bool.false_ne_true) ?_⟩
            | refine iteN (by rw [decide_eq_false hb]; exact Bool.false_ne_true) (iteF ?_)
          all_goals
            refine ⟨_, rfl, _, rfl, _, rfl, ?_⟩
            dsimp only [tNoPart]
            refine ⟨a2, .str x :: vs, rfl, h2.sq, cut1 (by rw [List.length_cons]; omega), fun r nr => ?_⟩
            rw [cutV1]
            have sr := same_new5 (o := .tup vs) nr
            have hR : SqT K (upd H2 r (.tup vs)) r vs := SqT.of upd_same
            have nra : ¬ Mw a r := fun z => by
              cases z
              obtain ⟨_, z⟩ := hw2
              rw [nr] at z
              cases z
            have evs : (ss.map V.str).length = vs.length := by rw [List.length_map, evl, hl]
            have fs := fine_tup hs
            refine ⟨p, r, _, _, rfl, .inr ⟨.inr hp2, hR, ?_⟩⟩
            refine RZ.for_zipT (K := K) (a := p) (b := r) (xs := ss.map V.str) (ys := vs) (D := ⟨tRet (tC (.bl true)) ⟨fun _ H' => Q .non H', Q, fun _ _ => False, fun _ _ => False⟩, Q, fun _ _ => False, fun _ _ => False⟩) evs
              (fun i σ H' => ∃ (y7 y8 y9 : Option V) (ci : Nat), σ = [some (.ref a), some (.ref a2), some (.ref ka), some (.int (10 - (n : Int))), some (.bl lp), some (.str x), some (.ref p), y7, y8, y9] ∧
                partsS (bodyD n (lp || decide (x = "while")) g) g ss ds (c + 1) = partsS (bodyD n (lp || decide (x = "while")) g) g (ss.drop i) (ds.drop i) ci ∧ c + 1 ≤ ci ∧ ci ≤ 100 ∧ Wlk T H' a ci ∧ Off (Mw a) (L2.upd H2 r (.tup vs)) H')
              ⟨none, none, none, c + 1, rfl, rfl, Nat.le_refl _, hc1, ?_, .refl⟩ (fun i σ H' ⟨_, _, _, _, _, _, _, _, _, e⟩ => ⟨.inr hp2, hR.off e nra⟩) ?_ ?_
            · exact ⟨dx2, sr _ _ (st1 _ _ hw2')⟩
            · rintro i x1 y1 t1 σ H3 hx hy ⟨y7, y8, y9, ci, rfl, ea, hci, hci2, hw3, o3⟩ nt1
              rw [List.getElem?_map] at hx
              obtain ⟨s1, es1, rfl⟩ := Option.map_eq_some_iff.mp hx
              obtain ⟨dy, edy, pdy⟩ := r22.get hy
              have s4 := same_new5 (o := .tup [.str s1, y1]) nt1
              refine ⟨t1, _, rfl, SqT.of upd_same, rfl, _, _, rfl, _, _, rfl, rfl, ?_⟩
              have o4 : Off (Mw a) H2 (L2.upd H3 t1 (.tup [.str s1, y1])) := ((Off.of sr).trans o3).trans (.of s4)
              obtain ⟨dx3, hw3'⟩ := hw3
              have hw4' := s4 _ _ hw3'
              have o34 : Off (Mw a) (L2.upd H2 r (.tup vs)) (L2.upd H3 t1 (.tup [.str s1, y1])) := o3.trans (.of s4)
              generalize L2.upd H3 t1 (.tup [.str s1, y1]) = H4 at o4 hw4' o34 ⊢
              have hw4 : Wlk T H4 a ci := ⟨dx3, hw4'⟩
              have pd4 := pdy.off o4
              have fd := fineAll_mem fs (.tail _ (List.mem_of_getElem? edy))
              have hk4 : KnownN H4 ka g (9 + ci) := hk2.off o4 hna (by omega)
              have ed : partsS (bodyD n (lp || decide (x = "while")) g) g (ss.drop i) (ds.drop i) ci = (if s1 = "body" then bodyD n (lp || decide (x = "while")) g dy ci else if partW (exprD g 10) g s1 dy = true then some ci else none).bind (partsS (bodyD n (lp || decide (x = "while")) g) g (ss.drop (i + 1)) (ds.drop (i + 1))) := partsS_drop _ _ _ _ i s1 dy ci es1 edy
              refine ⟨fun σ' H' => ∃ r : Option Nat, σ' = [some (.ref a), some (.ref a2), some (.ref ka), some (.int (10 - (n : Int))), some (.bl lp), some (.str x), some (.ref p), some (.str s1), some y1, some (.bl r.isSome)] ∧
                r = (if s1 = "body" then bodyD n (lp || decide (x = "while")) g dy ci else if partW (exprD g 10) g s1 dy = true then some ci else none) ∧ Off (Mw a) H4 H' ∧ ∀ c' : Nat, r = some c' → Wlk T H' a c', ?_, ?_⟩
              · refine ⟨_, rfl, rfl, _, rfl, ?_⟩
                rw [dec_str]
                by_cases hbd : s1 = "body"
                · rw [decide_eq_true hbd]
                  have fin : ∀ lw : Bool, lw = (lp || decide (x = "while")) → sp_is_body T n [.ref a, y1, .ref ka, .int (10 - (n : Int) + 1), .bl lw] H4 (fun v H' => ∃ r : Option Nat, [some (.ref a), some (.ref a2), some (.ref ka), some (.int (10 - (n : Int))), some (.bl lp), some (.str x), some (.ref p), some (.str s1), some y1, some v] = [some (.ref a), some (.ref a2), some (.ref ka), some (.int (10 - (n : Int))), some (.bl lp), some (.str x), some (.ref p), some (.str s1), some y1, some (.bl r.isSome)] ∧
                      r = (if s1 = "body" then bodyD n (lp || decide (x = "while")) g dy ci else if partW (exprD g 10) g s1 dy = true then some ci else none) ∧ Off (Mw a) H4 H' ∧ ∀ c' : Nat, r = some c' → Wlk T H' a c') E0 := by
                    rintro lw rfl
                    refine ⟨a, y1, ka, dy, g, _, ci, ?_, hw4, pd4, fd, hk4, hci2, fun H' o' w' => ⟨_, rfl, (if_pos hbd).symm, o', w'⟩⟩
                    rw [show (10 : Int) - (n : Int) + 1 = 11 - (n : Int) by omega]
                  refine iteT ⟨_, rfl, a, dx3, _, rfl, hw4', rfl, _, rfl, _, rfl, _, rfl, _, _, rfl, rfl, _, rfl, lp, rfl, ?_⟩
                  cases hlp2 : lp with
                  | true =>
                    rw [hlp2] at fin
                    exact iteT (fin true rfl)
                  | false =>
                    rw [hlp2] at fin
                    refine iteF ⟨_, rfl, rfl, ?_⟩
                    rw [dec_str]
                    exact fin _ rfl
                · rw [decide_eq_false hbd]
                  refine iteF ⟨_, rfl, _, rfl, _, rfl, s1, y1, ka, dy, g, rfl, pd4.dp, fd, hk4.known, fun H5 s5 => ?_⟩
                  refine ⟨if partW (exprD g 10) g s1 dy = true then some ci else none, ?_, (if_neg hbd).symm, .of s5, ?_⟩
                  · cases partW (exprD g 10) g s1 dy <;> rfl
                  · intro c' hc'
                    split at hc'
                    · cases hc'
                      exact ⟨dx3, s5 _ _ hw4'⟩
                    · cases hc'
              · rintro σ' H5 ⟨r5, rfl, er, o5, w5⟩
                rw [← er] at ed
                cases r5 with
                | none => exact ⟨_, rfl, false, rfl, iteT (q.no (ea.trans ed) ((o2.trans o4).trans o5))⟩
                | some c5 =>
                  have gr : ci ≤ c5 ∧ (ci ≤ 100 → c5 ≤ 100) := by
                    split at er
                    · exact bodyD_le n _ _ dy ci c5 er.symm
                    · split at er
                      · cases er; exact ⟨Nat.le_refl _, id⟩
                      · cases er
                  exact ⟨_, rfl, true, rfl, iteF ⟨_, _, _, c5, rfl, ea.trans ed, Nat.le_trans hci gr.1, gr.2 hci2, w5 c5 rfl, o34.trans o5⟩⟩
            · rintro σ H3 ⟨y7, y8, y9, ci, rfl, ea, hci, hci2, hw3, o3⟩
              rw [List.length_map, List.drop_length, ← hl, List.drop_length] at ea
              exact q.yes (ea.trans rfl) (o2.trans ((Off.of sr).trans o3)) hw3
        · rw [decide_eq_true (by omega)]
          exact iteT (q.no (es.trans (if_neg (fun z => hc1 z.2.1))) o1)
      · rw [decide_eq_false hl]
        exact iteT (q.no (es.trans (if_neg (fun z => hl z.1))) o1)
def sp_st (T : Tx w K mg) : Nat → Sp
  | 0 => fun _ _ _ _ => False
  | n + 1 => sp_is_statement T n
def Mb (a p : Addr) : Addr → Prop := fun b => b = a ∨ b = p
theorem body_of (T : Tx w K mg) (n : Nat) (hst : FnOk P w K mg base CX0 (2 * n + 29) T.a_is_statement T.d_is_statement ["self", "value", "known", "depth", "looped"] (sp_st T n)) :
    FnOk P w K mg base CX0 (2 * n + 30) T.a_is_body T.d_is_body ["self", "value", "known", "depth", "looped"] (sp_is_body T n) := by
  refine T.F_is_body.ok sc_is_body (fun vs H Q E h => ?_) (fun cdv A outer s H vs Q E hr h => ?_)
  · obtain ⟨a, v, ka, d, g, lp, c, rfl, _⟩ := h
    rfl
  · obtain ⟨a, v, ka, d, g, lp, c, rfl, ⟨dx, hw⟩, hd, hs, hk, hc, q⟩ := h
    refine ⟨_, (pss_cons (ps_if (PW.pt (pw_or (pt_not (pt_val (pe_callB call_isi (by rfl) T.z_isinstance (by decide +kernel) (pa_cons (pv 1) (pa_cons (pe_bltn (v := .ty "tuple") (u := .type "tuple") (by rfl) T.z_tuple (by decide +kernel) rfl) pa_nil))))) (pw_or1 (pt_cmpR op_gt (pv 3) (pe_gq (by rfl) T.q_DEEPEST_BODY) (nomark _))))) (pss_one (ps_ret pe_bl)) pss_nil)
      (pss_cons (ps_set (i := 5) sc_is_body.nd rfl (.inl rfl) (pe_callTy call_dictD (by rfl) T.z_dict (by decide +kernel) (pa_cons (pv 2) pa_nil)))
      (pss_cons (ps_for PassesOwn.never rfl (pi_tup (pv 1)) (pg_name (i := 6) sc_is_body.nd rfl (.inl rfl)) (pss_cons (ps_if (pt_not (pt_val (pe_meth (pv 0) T.cl_Walk T.m_is_statement hst (hr.mono (by omega)) T.b_is_statement .nil pass0 (pa_cons (pv 6) (pa_cons (pv 5) (pa_cons (pv 3) (pa_cons (pv 4) pa_nil))))))) (pss_one (ps_ret pe_bl)) pss_nil)
      (pss_one (ps_if (pt_cmpR op_in_seq (pe_ix ix_tup (pv 6) pe_int (fun _ _ => rfl)) (pe_tup (pa_cons pe_str (pa_cons pe_str pa_nil))) (by rfl)) (pss_one (ps_dput (hu_of hr) (pv 5) (pe_ix ix_tup (pv 6) pe_int (fun _ _ => rfl)) pe_str rfl)) pss_nil))))
      (pss_one (ps_ret pe_bl))))), ?_⟩
    refine ⟨_, rfl, _, _, _, _, _, rfl, .ty "tuple", hd.dp.tyx, kit_tup d, _, rfl, ?_⟩
    have no : isTup d = false → bodyD n lp g d c = none := fun z => by
      cases n with
      | zero => rfl
      | succ m => cases d <;> first | rfl | cases z
    cases hd with
    | @tup a2 vs ds h r =>
      refine iteF ⟨_, rfl, _, _, rfl, rfl, _, rfl, ?_⟩
      cases n with
      | zero => exact iteT (q.no rfl .refl)
      | succ m =>
      refine iteN (by rw [decide_eq_false (by omega)]; exact Bool.false_ne_true) ?_
      have hna : ¬ Mw a ka := KnownN.ne (T := T) hk ⟨dx, hw⟩
      obtain ⟨kvs, hkv, hkl, hkg⟩ := hk
      refine ⟨_, rfl, ka, kvs, rfl, .inl hkv, fun p np => ?_⟩
      have hpa : p ≠ a := fun z => by rw [z, hw] at np; cases np
      have s1 := same_new5 (o := .dK kvs) np
      have hw1 : Wlk T (L2.upd H p (.dK kvs)) a c := ⟨dx, s1 _ _ hw⟩
      have hk1 : KnownN (L2.upd H p (.dK kvs)) p g (9 + c) := ⟨kvs, upd_same, hkl, hkg⟩
      have back : ∀ H', Off (Mb a p) (L2.upd H p (.dK kvs)) H' → Off (Mw a) H H' := fun H' e b o nb hb => e b o (fun z => z.elim nb (fun z => by rw [z, np] at hb; cases hb)) (s1 _ _ hb)
      have r1 : DtAll (Mb a p) K (L2.upd H p (.dK kvs)) vs ds := (r.more (fun b z => z.elim .inl (fun z => .inr (by rw [z]; exact np)))).off (.of s1)
      have h1 : SqTM (Mb a p) K (L2.upd H p (.dK kvs)) a2 vs := (h.more (fun b z => z.elim .inl (fun z => .inr (by rw [z]; exact np)))).off (.of s1)
      have fs := fine_tup hs
      generalize L2.upd H p (.dK kvs) = H1 at hw1 hk1 back r1 h1 ⊢
      refine ⟨_, rfl, a2, rfl, ⟨_, h1.sq⟩, ?_⟩
      refine for_tup (K := K) (a := a2) (xs := vs) (D := ⟨tRet (tC (.bl true)) ⟨fun _ H' => Q .non H', Q, fun _ _ => False, fun _ _ => False⟩, Q, fun _ _ => False, fun _ _ => False⟩)
        (fun i σ H' => ∃ (y6 : Option V) (gi : Kn) (ci : Nat), σ = [some (.ref a), some (.ref a2), some (.ref ka), some (.int (11 - ((m + 1 : Nat) : Int))), some (.bl lp), some (.ref p), y6] ∧
          stmtsW (stmtP (bodyD m) lp) g ds c = stmtsW (stmtP (bodyD m) lp) gi (ds.drop i) ci ∧ ci ≤ 100 ∧ Wlk T H' a ci ∧ KnownN H' p gi (9 + ci) ∧ Off (Mb a p) H1 H')
        ⟨none, g, c, rfl, rfl, hc, hw1, hk1, .refl⟩ (fun i σ H' _ ⟨_, _, _, _, _, _, _, _, e⟩ => (h1.off e).sq) ?_ ?_
      · rintro i x1 σ H3 hx ⟨y6, gi, ci, rfl, ea, hci, ⟨dx3, hw3⟩, hk3, o3⟩
        obtain ⟨dy, edy, pdy⟩ := r1.get hx
        have pd3 := pdy.off o3
        have ed := stmtsW_drop (stmtP (bodyD m) lp) ds i gi dy ci edy
        refine ⟨_, rfl, a, dx3, _, rfl, hw3, rfl, _, rfl, _, rfl, _, rfl, _, rfl, a, x1, p, dy, gi, lp, ci, ?_, ⟨dx3, hw3⟩, pd3.more (fun b z => .inl (.inl z)), fineAll_mem fs (List.mem_of_getElem? edy), hk3, hci, fun H4 o4 w4 => ⟨_, rfl, ?_⟩⟩
        · show [V.ref a, x1, V.ref p, V.int (11 - ((m + 1 : Nat) : Int)), V.bl lp] = _
          rw [show (11 : Int) - ((m + 1 : Nat) : Int) = 10 - (m : Int) by omega]
        have o34 : Off (Mb a p) H1 H4 := o3.trans (o4.mono fun b z => .inl z)
        have hk4 : KnownN H4 p gi (9 + ci) := hk3.off o4 (fun z => hpa z) (Nat.le_refl _)
        cases hr5 : stmtP (bodyD m) lp gi dy ci with
        | none =>
          rw [hr5] at ed
          exact iteT (q.no (ea.trans ed) (back _ o34))
        | some c5 =>
        rw [hr5] at ed
        have gr := stmtP_le (bodyD_le m) hr5
        obtain ⟨x, ps, rfl, hsh⟩ := stmtP_shape hr5
        have hw4 := w4 c5 hr5
        have pd4 := pd3.off (o4.mono (N := Mb a p) fun b z => .inl z)
        cases pd4 with
        | @tup a3 xs3 _ h3 r3 =>
        cases r3 with
        | @cons v0 vs3 _ _ p0 r4 =>
        cases p0
        refine iteF ⟨_, rfl, a3, _, 0, .str x, rfl, rfl, h3.sq, atI_head, by decide +kernel, fun t nt => ⟨t, _, rfl, .inr (SqT.of upd_same), rfl, rfl, _, rfl, ?_⟩⟩
        rw [inV2]
        have s5 := same_new5 (o := .tup [.str "let", .str "collect"]) nt
        obtain ⟨dx4, hw4'⟩ := hw4
        have hw5 := s5 _ _ hw4'
        have h5 : SqTM (Mb a p) K (L2.upd H4 t (.tup [.str "let", .str "collect"])) a3 (.str x :: vs3) := h3.off (.of s5)
        have o5 : Off (Mb a p) H1 (L2.upd H4 t (.tup [.str "let", .str "collect"])) := o34.trans (.of s5)
        have hk5 : KnownN (L2.upd H4 t (.tup [.str "let", .str "collect"])) p gi (9 + ci) := hk4.off (Off.of (M := Mw a) s5) (fun z => hpa z) (Nat.le_refl _)
        generalize L2.upd H4 t (.tup [.str "let", .str "collect"]) = H5 at hw5 h5 o5 hk5 ⊢
        by_cases hx2 : x = "let" ∨ x = "collect"
        · obtain ⟨z, qs, rfl⟩ := hsh hx2
          cases r4 with
          | @cons v1 vs4 _ _ p1 r5 =>
          cases p1
          obtain ⟨kv5, hk5a, hk5l, hk5g⟩ := hk5
          refine iteY (decide_eq_true hx2) ⟨_, rfl, _, rfl, a3, _, 1, .str z, rfl, rfl, h5.sq, atI_nat (i := 1) rfl, p, _, rfl, .inl ⟨kv5, .inr z, hk5a, rfl, small1000 (by omega), rfl⟩, ?_⟩
          refine ⟨_, putKn gi z "int", c5, rfl, ?_, gr.2, ⟨dx4, ?_⟩, ⟨_, upd_same, ?_, fun y => ?_⟩, fun b o nb hb => (upd_ne (fun z => nb (.inr z))).trans (o5 b o nb hb)⟩
          · rw [ea, ed]
            show stmtsW _ (nextKn gi _) _ _ = _
            rw [nextKn_yes hx2]
          · rw [upd_ne (Ne.symm hpa)]
            exact hw5
          · have := length_putK kv5 (Sum.inr z) (V.str "int")
            omega
          · rw [valV_put, hk5g]
            show _ = ((if y = z then some ("int" : Str) else gi y).map V.str)
            by_cases hy : y = z
            · rw [if_pos hy, if_pos (by rw [hy])]
              rfl
            · rw [if_neg hy, if_neg (fun e => hy (Sum.inr.inj e))]
        · refine iteN (by rw [decide_eq_false hx2]; exact Bool.false_ne_true) ⟨_, gi, c5, rfl, ?_, gr.2, ⟨dx4, hw5⟩, hk5.off (Off.refl (M := Mw a)) (fun z => hpa z) (by omega), o5⟩
          rw [ea, ed]
          show stmtsW _ (nextKn gi _) _ _ = _
          rw [nextKn_no hx2]
      · rintro σ H3 ⟨y6, gi, ci, rfl, ea, hci, hw3, hk3, o3⟩
        rw [r.len, List.drop_length] at ea
        exact q.yes (ea.trans rfl) (back _ o3) hw3
    | int i => exact q.no (no rfl) .refl
    | bl b => exact q.no (no rfl) .refl
    | non => exact q.no (no rfl) .refl
    | str x => exact q.no (no rfl) .refl
    | lst h r => exact q.no (no rfl) .refl
theorem ok_walks (T : Tx w K mg) : ∀ n : Nat, FnOk P w K mg base CX0 (2 * n + 29) T.a_is_statement T.d_is_statement ["self", "value", "known", "depth", "looped"] (sp_st T n) ∧
    FnOk P w K mg base CX0 (2 * n + 30) T.a_is_body T.d_is_body ["self", "value", "known", "depth", "looped"] (sp_is_body T n)
  | 0 => have hp := T.F_is_statement.ok sc_is_statement (fun vs H Q E h => h.elim) (fun cdv A outer s H vs Q E hr h => h.elim); ⟨hp, body_of T 0 hp⟩
  | n + 1 => have hp := st_of T n (ok_walks T n).2; ⟨hp, body_of T (n + 1) hp⟩
def sortOf (s : Str) : Str := if s = "int" then "int" else "array"
def gPar1 (g : Kn) : PyData → Kn
  | .tuple [.str x, .str s] => putKn g x (sortOf s)
  | _ => g
def gSha1 (g : Kn) : PyData → Kn
  | .tuple [.str x, .int _] => putKn g x "array"
  | _ => g
def g0 (ps ss : List PyData) : Kn := ss.foldl gSha1 (ps.foldl gPar1 fun _ => none)
theorem foldl_take {α β : Type} (f : α → β → α) (b : α) (xs : List β) (i : Nat) (x : β) (h : xs[i]? = some x) : (xs.take (i + 1)).foldl f b = f ((xs.take i).foldl f b) x := by
  rw [List.take_add_one, h, List.foldl_append]
  rfl
theorem KnownN.put {H : Hp} {p : Addr} {g : Kn} {n : Nat} {kvs : List (Key × V)} {z v : Str} (hl : kvs.length ≤ n) (hk : ∀ z, valV kvs (.inr z) = (g z).map V.str) :
    KnownN (L2.upd H p (.dK (putK kvs (.inr z) (V.str v)))) p (putKn g z v) (n + 1) := by
  refine ⟨_, upd_same, ?_, fun y => ?_⟩
  · have := length_putK kvs (Sum.inr z) (V.str v)
    omega
  · rw [valV_put, hk]
    show _ = ((if y = z then some v else g y).map V.str)
    by_cases hy : y = z
    · rw [if_pos hy, if_pos (by rw [hy])]
      rfl
    · rw [if_neg hy, if_neg (fun e => hy (Sum.inr.inj e))]
def sp_known (K : PySem.W.Frag) : Sp := fun vs H Q _ => ∃ (v1 v2 : V) (ps ss : List PyData), vs = [v1, v2] ∧ Dp K H v1 (.tuple ps) ∧ Dp K H v2 (.tuple ss) ∧ ps.all paramD = true ∧ ss.all sharedD = true ∧ ps.length ≤ 6 ∧ ss.length ≤ 3 ∧
  ∀ r H', Same H H' → KnownN H' r (g0 ps ss) 9 → Q (.ref r) H'
theorem ok_known_at_first (T : Tx w K mg) : FnOk P w K mg base CX0 1 T.a_known_at_first T.d_known_at_first ["params", "shared"] (sp_known K) := by
  refine T.F_known_at_first.ok sc_known_at_first (fun vs H Q E h => ?_) (fun cdv A outer s H vs Q E hr h => ?_)
  · obtain ⟨v1, v2, ps, ss, rfl, _⟩ := h
    rfl
  · obtain ⟨v1, v2, ps, ss, rfl, hp, hsh, ap, as, lp, ls, q⟩ := h
    refine ⟨_, (pss_cons (ps_set (i := 2) sc_known_at_first.nd rfl (.inl rfl) (pe_dnewK))
      (pss_cons (ps_for PassesOwn.never rfl (pi_tup (pv 0)) (pg_tup rfl (pgs_cons (pg_name (i := 3) sc_known_at_first.nd rfl (.inl rfl)) (pgs_cons (pg_name (i := 4) sc_known_at_first.nd rfl (.inl rfl)) pgs_nil))) (pss_one (ps_dput (hu_of hr) (pv 2) (pv 3) (pe_ifExp (pt_cmpR op_eq (pv 4) pe_str (nomark _)) pe_str pe_str) rfl)))
      (pss_cons (ps_for PassesOwn.never rfl (pi_tup (pv 1)) (pg_tup rfl (pgs_cons (pg_name (i := 3) sc_known_at_first.nd rfl (.inl rfl)) (pgs_cons (pg_name (i := 5) sc_known_at_first.nd rfl (.inl rfl)) pgs_nil))) (pss_one (ps_dput (hu_of hr) (pv 2) (pv 3) pe_str rfl)))
      (pss_one (ps_ret (pv 2)))))), ?_⟩
    intro p np
    have s0 := same_new5 (o := .dK []) np
    cases hp with
    | @tup a1 vs1 _ h1 r1 =>
    cases hsh with
    | @tup a2 vs2 _ h2 r2 =>
    have e1 := r1.len
    have e2 := r2.len
    have oM : Off (fun b => b = p) H (L2.upd H p (.dK [])) := .of s0
    have back : ∀ H', Off (fun b => b = p) H H' → Same H H' := fun H' e b o hb => e b o (fun z => by rw [z, np] at hb; cases hb) hb
    refine ⟨_, rfl, a1, rfl, ⟨_, Same.sqt s0 h1⟩, for_tup (K := K) (a := a1) (xs := vs1)
      (fun i σ H' => ∃ y3 y4 y5 : Option V, σ = [some (.ref a1), some (.ref a2), some (.ref p), y3, y4, y5] ∧ i ≤ 6 ∧ KnownN H' p ((ps.take i).foldl gPar1 fun _ => none) i ∧ Off (fun b => b = p) H H')
      ⟨none, none, none, rfl, by decide, ⟨[], upd_same, Nat.le_refl _, fun _ => rfl⟩, oM⟩ (fun i σ H' _ ⟨_, _, _, _, _, _, e⟩ => Same.sqt (back _ e) h1) ?_ ?_⟩
    · rintro i x1 σ H1 hx ⟨y3, y4, y5, rfl, hi, ⟨kvs, hkp, hkl, hkg⟩, o1⟩
      obtain ⟨dx, edx, pdx⟩ := r1.get hx
      obtain ⟨x, s, rfl⟩ := paramD_shape (List.all_eq_true.mp ap _ (List.mem_of_getElem? edx))
      have hi2 : i < ps.length := (List.getElem?_eq_some_iff.mp edx).1
      replace pdx := pdx.same (back _ o1)
      cases pdx with
      | @tup ax axs axd hax hr2 =>
      cases hr2 with
      | cons c1 c2 =>
      cases c1
      cases c2 with
      | cons c3 c4 =>
      cases c3
      cases c4
      have fin : ∀ v : Str, v = sortOf s → KnownN (L2.upd H1 p (.dK (putK kvs (Sum.inr x) (V.str v)))) p ((ps.take (i + 1)).foldl gPar1 fun _ => none) (i + 1) ∧ Off (fun b => b = p) H (L2.upd H1 p (.dK (putK kvs (Sum.inr x) (V.str v)))) := by
        rintro v rfl
        refine ⟨?_, fun b o nb hb => (upd_ne nb).trans (o1 b o nb hb)⟩
        rw [foldl_take _ _ _ _ _ edx]
        exact KnownN.put hkl hkg
      refine ⟨ax, _, rfl, hax, rfl, _, _, rfl, _, _, rfl, rfl, _, rfl, rfl, _, rfl, ?_⟩
      rw [dec_str]
      by_cases hs : s = "int"
      · have f2 := fin "int" (if_pos hs).symm
        exact iteY (decide_eq_true hs) ⟨_, rfl, _, rfl, p, _, rfl, .inl ⟨kvs, .inr x, hkp, rfl, small1000 (by omega), rfl⟩, _, _, _, rfl, by omega, f2.1, f2.2⟩
      · have f2 := fin "array" (if_neg hs).symm
        exact iteN (by rw [decide_eq_false hs]; exact Bool.false_ne_true) ⟨_, rfl, _, rfl, p, _, rfl, .inl ⟨kvs, .inr x, hkp, rfl, small1000 (by omega), rfl⟩, _, _, _, rfl, by omega, f2.1, f2.2⟩
    · rintro σ H1 ⟨y3, y4, y5, rfl, hi, hk1, o1⟩
      rw [e1, List.take_length] at hk1
      refine ⟨_, rfl, a2, rfl, ⟨_, Same.sqt (back _ o1) h2⟩, for_tup (K := K) (a := a2) (xs := vs2)
        (fun i σ H' => ∃ y3 y4 y5 : Option V, σ = [some (.ref a1), some (.ref a2), some (.ref p), y3, y4, y5] ∧ i ≤ 3 ∧ KnownN H' p ((ss.take i).foldl gSha1 (ps.foldl gPar1 fun _ => none)) (6 + i) ∧ Off (fun b => b = p) H H')
        ⟨y3, y4, y5, rfl, by decide, hk1.off (Off.refl (M := fun _ => False)) id (by omega), o1⟩ (fun i σ H' _ ⟨_, _, _, _, _, _, e⟩ => Same.sqt (back _ e) h2) ?_ ?_⟩
      · rintro i x1 σ H1 hx ⟨y3, y4, y5, rfl, hi, ⟨kvs, hkp, hkl, hkg⟩, o1⟩
        obtain ⟨dx, edx, pdx⟩ := r2.get hx
        obtain ⟨x, k, rfl⟩ := sharedD_shape (List.all_eq_true.mp as _ (List.mem_of_getElem? edx))
        have hi2 : i < ss.length := (List.getElem?_eq_some_iff.mp edx).1
        replace pdx := pdx.same (back _ o1)
        cases pdx with
        | @tup ax axs axd hax hr2 =>
        cases hr2 with
        | cons c1 c2 =>
        cases c1
        cases c2 with
        | cons c3 c4 =>
        cases c3
        cases c4
        refine ⟨ax, _, rfl, hax, rfl, _, _, rfl, _, _, rfl, rfl, _, rfl, _, rfl, p, _, rfl, .inl ⟨kvs, .inr x, hkp, rfl, small1000 (by omega), rfl⟩, _, _, _, rfl, by omega, ?_, fun b o nb hb => (upd_ne nb).trans (o1 b o nb hb)⟩
        rw [foldl_take _ _ _ _ _ edx]
        exact KnownN.put hkl hkg
      · rintro σ H1 ⟨y3, y4, y5, rfl, hi, hk1, o1⟩
        rw [e2, List.take_length] at hk1
        exact ⟨_, rfl, q p _ (back _ o1) (hk1.off (Off.refl (M := fun _ => False)) id (by omega))⟩
def namesOf (ps ss : List PyData) : List Str := (ps ++ ss).map firstD
def headD : PyData → PyData → Bool
  | .tuple ps, .tuple ss => decide (ps.length ≤ 6) && (decide (ss.length ≤ 3) && (ps.all paramD && (ss.all sharedD && decide (TX.nd (namesOf ps ss) (namesOf ps ss).length = (namesOf ps ss).length))))
  | _, _ => false
def sp_is_head (K : PySem.W.Frag) : Sp := fun vs H Q _ => ∃ (v1 v2 : V) (d1 d2 : PyData), vs = [v1, v2] ∧ Dp K H v1 d1 ∧ Dp K H v2 d2 ∧ fine d1 = true ∧ fine d2 = true ∧ ∀ H', Same H H' → Q (.bl (headD d1 d2)) H'
def restD (p s b : PyData) : Bool := match p, s with
  | .tuple ps, .tuple ss => (bodyD 10 false (g0 ps ss) b 0).isSome
  | _, _ => false
def kernelD : PyData → Bool
  | .tuple [p, s, b] => headD p s && restD p s b
  | _ => false
theorem headD_shape {p s : PyData} (h : headD p s = true) : ∃ ps ss, p = .tuple ps ∧ s = .tuple ss ∧ ps.length ≤ 6 ∧ ss.length ≤ 3 ∧ ps.all paramD = true ∧ ss.all sharedD = true := by
  unfold headD at h
  split at h
  · simp only [Bool.and_eq_true, decide_eq_true_eq] at h
    exact ⟨_, _, rfl, rfl, h.1, h.2.1, h.2.2.1, h.2.2.2.1⟩
  · cases h
theorem tupIn3 {d : PyData} (h : tupIn 3 3 d = true) : ∃ a b c, d = .tuple [a, b, c] := by
  cases d with
  | tuple xs =>
    replace h : (decide ((3 : Int) ≤ (xs.length : Int)) && decide ((xs.length : Int) ≤ 3)) = true := h
    rw [Bool.and_eq_true] at h
    have h1 := of_decide_eq_true h.1
    have h2 := of_decide_eq_true h.2
    match xs, h1, h2 with
    | [a, b, c], _, _ => exact ⟨a, b, c, rfl⟩
    | [], h, _ => exact absurd h (by show ¬ ((3 : Int) ≤ ((0 : Nat) : Int)); omega)
    | [_], h, _ => exact absurd h (by show ¬ ((3 : Int) ≤ ((1 : Nat) : Int)); omega)
    | [_, _], h, _ => exact absurd h (by show ¬ ((3 : Int) ≤ ((2 : Nat) : Int)); omega)
    | _ :: _ :: _ :: _ :: r, _, h => exact absurd h (by simp only [List.length_cons]; omega)
  | _ => cases h
theorem rCatA_dp {x y : V} {H : Hp} {Q : VK} {ps ss : List PyData} (h1 : Dp K H x (.tuple ps)) (h2 : Dp K H y (.tuple ss)) (hl : ps.length + ss.length ≤ sizeLine) (q : ∀ r H' zs, Same H H' → SqT K H' r zs → DpAll K H' zs (ps ++ ss) → Q (.ref r) H') : rCatA K x y H Q := by
  have app : ∀ {H : Hp} {vs us : List V} {ds es : List PyData}, DpAll K H vs ds → DpAll K H us es → DpAll K H (vs ++ us) (ds ++ es) := by
    intro H vs
    induction vs with
    | nil =>
      intro us ds es a b
      cases a
      exact b
    | cons v vs ih =>
      intro us ds es a b
      cases a with
      | cons a1 a2 => exact .cons a1 (ih a2 b)
  cases h1 with
  | @tup a xs _ ha ra =>
  cases h2 with
  | @tup b ys _ hb rb =>
  refine ⟨a, b, xs, ys, rfl, rfl, ha, hb, by rw [ra.len, rb.len]; exact hl, fun e => ?_, fun _ e => ?_, fun _ _ p np => ?_⟩
  · subst e
    cases ra
    exact q b H ys (.refl H) hb rb
  · subst e
    cases rb
    exact q a H xs (.refl H) ha (by rw [List.append_nil]; exact ra)
  · have s := same_new5 (o := .tup (xs ++ ys)) np
    exact q p _ _ s (SqT.of upd_same) (app (DpAll.same s ra) (DpAll.same s rb))
theorem headD_no1 {p s : PyData} (h : tupIn 0 6 p = false ∨ tupIn 0 3 s = false) : headD p s = false := by
  unfold headD
  split
  · next ps ss =>
    have e : ∀ (n : Nat) (k : Int) (xs : List PyData), k = (n : Int) → tupIn 0 k (.tuple xs) = decide (xs.length ≤ n) := by
      rintro n _ xs rfl
      show (decide ((0 : Int) ≤ (xs.length : Int)) && decide ((xs.length : Int) ≤ (n : Int))) = _
      rw [decide_eq_true (by omega), Bool.true_and]
      by_cases z : xs.length ≤ n
      · rw [decide_eq_true z, decide_eq_true (by omega)]
      · rw [decide_eq_false z, decide_eq_false (by omega)]
    rw [e 6 6 ps rfl, e 3 3 ss rfl] at h
    rcases h with h | h <;> simp [h]
  · rfl
theorem ok_is_head (T : Tx w K mg) : FnOk P w K mg base CX0 8 T.a_is_head T.d_is_head ["params", "shared"] (sp_is_head K) := by
  refine T.F_is_head.ok sc_is_head (fun vs H Q E h => ?_) (fun cdv A outer s H vs Q E hr h => ?_)
  · obtain ⟨v1, v2, d1, d2, rfl, _⟩ := h
    rfl
  · obtain ⟨v1, v2, d1, d2, rfl, hd1, hd2, f1, f2, q⟩ := h
    refine ⟨_, (pss_cons (ps_if (PW.pt (pw_or (pt_not (pt_val (pe_call (ok_is_tuple T) (hr.mono (by decide)) (by rfl) T.g_is_tuple T.F_is_tuple.kp T.b_is_tuple .nil pass0 (pa_cons (pv 0) (pa_cons pe_int (pa_cons (pe_gq (by rfl) T.q_MOST_PARAMS) pa_nil)))))) (pw_or1 (pt_not (pt_val (pe_call (ok_is_tuple T) (hr.mono (by decide)) (by rfl) T.g_is_tuple T.F_is_tuple.kp T.b_is_tuple .nil pass0 (pa_cons (pv 1) (pa_cons pe_int (pa_cons (pe_gq (by rfl) T.q_MOST_SHARED) pa_nil))))))))) (pss_one (ps_ret pe_bl)) pss_nil)
      (pss_cons (ps_if (pt_not (pt_val (pe_callB (cr_all rfl) (by rfl) T.z_all (by decide +kernel) (pa_cons (pe_lc (own := [("row", 3)]) (g := gName 3) (tt := tYes) rfl sc_is_head.nd (pi_tup (pv 0)) (blkOk_by (N := ["params", "shared", "names", "row"]) (sc := defScope s_is_head) (by decide +kernel)) (fun _ _ _ _ _ => (pg_name (i := 3) sc_is_head.nd rfl (.inl rfl))) (fun _ _ _ _ _ => pts_nil) (fun _ _ _ _ _ => (pe_call (ok_is_param T) (hr.mono (by decide)) (by rfl) T.g_is_param T.F_is_param.kp T.b_is_param .nil pass0 (pa_cons (pv 3) pa_nil)))) pa_nil)))) (pss_one (ps_ret pe_bl)) pss_nil)
      (pss_cons (ps_if (pt_not (pt_val (pe_callB (cr_all rfl) (by rfl) T.z_all (by decide +kernel) (pa_cons (pe_lc (own := [("row", 3)]) (g := gName 3) (tt := tYes) rfl sc_is_head.nd (pi_tup (pv 1)) (blkOk_by (N := ["params", "shared", "names", "row"]) (sc := defScope s_is_head) (by decide +kernel)) (fun _ _ _ _ _ => (pg_name (i := 3) sc_is_head.nd rfl (.inl rfl))) (fun _ _ _ _ _ => pts_nil) (fun _ _ _ _ _ => (pe_call (ok_is_shared_array T) (hr.mono (by decide)) (by rfl) T.g_is_shared_array T.F_is_shared_array.kp T.b_is_shared_array .nil pass0 (pa_cons (pv 3) pa_nil)))) pa_nil)))) (pss_one (ps_ret pe_bl)) pss_nil)
      (pss_cons (ps_setLc (i := 2) (own := [("row", 3)]) (g := gName 3) (tt := tYes) rfl sc_is_head.nd rfl rfl (sw_true rfl rfl rfl (by decide +kernel)) (pi_tup (pe_op op_catA (pv 0) (pv 1))) (blkOk_by (N := ["params", "shared", "names", "row"]) (sc := defScope s_is_head) (by decide +kernel)) (fun _ _ _ _ _ => (pg_name (i := 3) sc_is_head.nd rfl (.inl rfl))) (fun _ _ _ _ _ => pts_nil) (fun _ _ _ _ _ => (pe_ix (show IxR _ (rIxT K) from ix_tup) (pv 3) pe_int (fun _ _ => rfl))))
      (pss_one (ps_ret (pe_cmpR op_eq (pe_lenTx (by rfl) T.z_len (by rfl) T.z_set (pv 2)) (pe_callB call_len_seq (by rfl) T.z_len (by decide +kernel) (pa_cons (pv 2) pa_nil)) (nomark _)))))))), ?_⟩
    refine ⟨_, rfl, v1, d1, 0, 6, rfl, hd1, _, rfl, ?_⟩
    by_cases ht : tupIn 0 6 d1 = true
    · rw [ht]
      refine iteF ⟨_, rfl, v2, d2, 0, 3, rfl, hd2, _, rfl, ?_⟩
      by_cases ht2 : tupIn 0 3 d2 = true
      · rw [ht2]
        obtain ⟨ps, rfl⟩ : ∃ ps, d1 = .tuple ps := by cases d1 <;> first | exact ⟨_, rfl⟩ | cases ht
        obtain ⟨ss, rfl⟩ : ∃ ps, d2 = .tuple ps := by cases d2 <;> first | exact ⟨_, rfl⟩ | cases ht2
        cases hd1 with
        | @tup a1 vs1 _ h1 r1 =>
        cases hd2 with
        | @tup a2 vs2 _ h2 r2 =>
        have l6 : ps.length ≤ 6 := by
          replace ht : (decide ((0 : Int) ≤ (ps.length : Int)) && decide ((ps.length : Int) ≤ 6)) = true := ht
          rw [Bool.and_eq_true] at ht
          have := of_decide_eq_true ht.2
          omega
        have l3 : ss.length ≤ 3 := by
          replace ht2 : (decide ((0 : Int) ≤ (ss.length : Int)) && decide ((ss.length : Int) ≤ 3)) = true := ht2
          rw [Bool.and_eq_true] at ht2
          have := of_decide_eq_true ht2.2
          omega
        have eh : headD (.tuple ps) (.tuple ss) = (ps.all paramD && (ss.all sharedD && decide (TX.nd (namesOf ps ss) (namesOf ps ss).length = (namesOf ps ss).length))) := by
          show (decide (ps.length ≤ 6) && (decide (ss.length ≤ 3) && _)) = _
          rw [decide_eq_true l6, decide_eq_true l3, Bool.true_and, Bool.true_and]
        rw [eh] at q
        have g1 := fine_tup f1
        have g2 := fine_tup f2
        refine iteF ⟨_, rfl, a1, rfl, ⟨_, h1⟩, fun D nD => lc_tup (K := K) (a := a1) (xs := vs1) (fun i H' => H' D = some (.lst ((ps.take i).map fun d => V.bl (paramD d))) ∧ Same H H') ⟨upd_same, fun c o e => by rw [upd_ne (ne_of_none e nD)]; exact e⟩ (fun i H' _ ⟨_, e⟩ => Same.sqt e h1) ?_ ?_⟩
        · rintro i x H1 hx ⟨eD, sm⟩
          obtain ⟨d, ed, pd⟩ := r1.get hx
          have hi2 : i < ps.length := (List.getElem?_eq_some_iff.mp ed).1
          refine ⟨rfl, _, rfl, x, d, rfl, pd.same sm, fineAll_mem g1 (List.mem_of_getElem? ed), fun H2 s2 => ⟨_, s2 _ _ eD, ?_, ?_, fun c o e => ?_⟩⟩
          · rw [List.length_map]; exact small1000 (by rw [List.length_take]; omega)
          · rw [upd_same, bools_snoc ed]
          · rw [upd_ne (ne_of_none e nD)]; exact s2 _ _ (sm _ _ e)
        rintro H1 ⟨eD, sm⟩
        rw [r1.len, List.take_length] at eD
        refine ⟨D, ps.map paramD, rfl, SqL.of (by rw [List.map_map]; exact eD), _, rfl, ?_⟩
        rw [all_bools]
        by_cases hp : ps.all paramD = true
        · rw [hp, Bool.true_and] at q
          rw [hp]
          refine iteF ⟨_, rfl, a2, rfl, ⟨_, Same.sqt sm h2⟩, fun D2 nD2 => lc_tup (K := K) (a := a2) (xs := vs2) (fun i H' => H' D2 = some (.lst ((ss.take i).map fun d => V.bl (sharedD d))) ∧ Same H1 H') ⟨upd_same, fun c o e => by rw [upd_ne (ne_of_none e nD2)]; exact e⟩ (fun i H' _ ⟨_, e⟩ => Same.sqt (sm.trans e) h2) ?_ ?_⟩
          · rintro i x H2 hx ⟨eD2, sm2⟩
            obtain ⟨d, ed, pd⟩ := r2.get hx
            have hi2 : i < ss.length := (List.getElem?_eq_some_iff.mp ed).1
            refine ⟨rfl, _, rfl, x, d, rfl, pd.same (sm.trans sm2), fineAll_mem g2 (List.mem_of_getElem? ed), fun H3 s3 => ⟨_, s3 _ _ eD2, ?_, ?_, fun c o e => ?_⟩⟩
            · rw [List.length_map]; exact small1000 (by rw [List.length_take]; omega)
            · rw [upd_same, bools_snoc ed]
            · rw [upd_ne (ne_of_none e nD2)]; exact s3 _ _ (sm2 _ _ e)
          rintro H2 ⟨eD2, sm2⟩
          rw [r2.len, List.take_length] at eD2
          refine ⟨D2, ss.map sharedD, rfl, SqL.of (by rw [List.map_map]; exact eD2), _, rfl, ?_⟩
          rw [all_bools]
          have s12 := sm.trans sm2
          by_cases hsd : ss.all sharedD = true
          · rw [hsd, Bool.true_and] at q
            rw [hsd]
            refine iteF ⟨_, rfl, _, rfl, rCatA_dp (ps := ps) (ss := ss) (.tup (Same.sqt s12 h1) (DpAll.same s12 r1)) (.tup (Same.sqt s12 h2) (DpAll.same s12 r2)) (small1000 (by omega) |> Nat.le_of_lt) (fun r H3 zs s3 hz rz => ⟨r, rfl, ⟨_, hz⟩, fun D3 nD3 => ?_⟩)⟩
            have rowsN : ∀ (i : Nat) (d : PyData), (ps ++ ss)[i]? = some d → ∃ x rest, d = .tuple (.str x :: rest) := by
              intro i d hd
              rcases List.mem_append.mp (List.mem_of_getElem? hd) with m | m
              · obtain ⟨x, s, rfl⟩ := paramD_shape (List.all_eq_true.mp hp _ m)
                exact ⟨x, _, rfl⟩
              · obtain ⟨x, s, rfl⟩ := sharedD_shape (List.all_eq_true.mp hsd _ m)
                exact ⟨x, _, rfl⟩
            refine lc_tup (K := K) (a := r) (xs := zs) (fun i H' => H' D3 = some (.lst ((((ps ++ ss).take i).map firstD).map V.str)) ∧ Same H3 H') ⟨upd_same, fun c o e => by rw [upd_ne (ne_of_none e nD3)]; exact e⟩ (fun i H' _ ⟨_, e⟩ => Same.sqt e hz) ?_ ?_
            · rintro i x H4 hx ⟨eD3, sm3⟩
              obtain ⟨d, ed, pd⟩ := rz.get hx
              have hi2 : i < (ps ++ ss).length := (List.getElem?_eq_some_iff.mp ed).1
              obtain ⟨z, rest, rfl⟩ := rowsN i d ed
              replace pd := pd.same sm3
              cases pd with
              | @tup b zs2 _ hb rb =>
              cases rb with
              | cons c1 c2 =>
              cases c1
              refine ⟨rfl, _, rfl, b, _, 0, .str z, rfl, rfl, hb, atI_head, _, eD3, ?_, ?_, fun c o e => ?_⟩
              · rw [List.length_map, List.length_map]; exact small1000 (by rw [List.length_take]; rw [List.length_append] at hi2; omega)
              · rw [upd_same, List.take_add_one, ed, List.map_append, List.map_append]
                rfl
              · rw [upd_ne (ne_of_none e nD3)]; exact sm3 _ _ e
            rintro H4 ⟨eD3, sm3⟩
            rw [rz.len, List.take_length] at eD3
            have eD4 : H4 D3 = some (.lst ((namesOf ps ss).map V.str)) := eD3
            have ln : (namesOf ps ss).length ≤ 9 := by
              unfold namesOf
              rw [List.length_map, List.length_append]
              omega
            refine ⟨_, rfl, D3, namesOf ps ss, rfl, SqL.of eD4, by omega, _, rfl, D3, _, rfl, .inl (SqL.of eD4), rfl, ?_⟩
            have ee : decide (V.int ((TX.nd (namesOf ps ss) (namesOf ps ss).length : Nat) : Int) = V.int ((((namesOf ps ss).map V.str).length : Nat) : Int)) = decide (TX.nd (namesOf ps ss) (namesOf ps ss).length = (namesOf ps ss).length) := by
              rw [List.length_map]
              by_cases z : TX.nd (namesOf ps ss) (namesOf ps ss).length = (namesOf ps ss).length
              · rw [decide_eq_true z, z, decide_eq_true rfl]
              · rw [decide_eq_false z, decide_eq_false (fun y => z (by have := V.int.inj y; omega))]
            rw [ee]
            exact q _ (s12.trans (s3.trans sm3))
          · rw [Bool.eq_false_iff.mpr hsd, Bool.false_and] at q
            rw [Bool.eq_false_iff.mpr hsd]
            exact iteT (q _ s12)
        · rw [Bool.eq_false_iff.mpr hp, Bool.false_and] at q
          rw [Bool.eq_false_iff.mpr hp]
          exact iteT (q _ sm)
      · rw [Bool.eq_false_iff.mpr ht2]
        rw [headD_no1 (.inr (Bool.eq_false_iff.mpr ht2))] at q
        exact iteT (q _ (.refl H))
    · rw [Bool.eq_false_iff.mpr ht]
      rw [headD_no1 (.inl (Bool.eq_false_iff.mpr ht))] at q
      exact iteT (q _ (.refl H))
theorem kernelD_no {d : PyData} (h : ¬ tupIn 3 3 d = true) : kernelD d = false := by
  unfold kernelD
  split
  · exact absurd rfl h
  · rfl
theorem ok_is_kernel (T : Tx w K mg) : FnOk P w K mg base CX0 60 T.a_is_kernel T.d_is_kernel ["value"] (spS K kernelD) := by
  refine T.F_is_kernel.ok sc_is_kernel (fun vs H Q E h => ?_) (fun cdv A outer s H vs Q E hr h => ?_)
  · obtain ⟨v, d, rfl, _⟩ := h
    rfl
  · obtain ⟨v, d, rfl, hd, hs, q⟩ := h
    refine ⟨_, (pss_cons (ps_if (pt_not (pt_val (pe_call (ok_is_tuple T) (hr.mono (by decide)) (by rfl) T.g_is_tuple T.F_is_tuple.kp T.b_is_tuple .nil pass0 (pa_cons (pv 0) (pa_cons pe_int (pa_cons pe_int pa_nil)))))) (pss_one (ps_ret pe_bl)) pss_nil)
      (pss_cons (ps_asg (pv 0) (pg_tup rfl (pgs_cons (pg_name (i := 1) sc_is_kernel.nd rfl (.inl rfl)) (pgs_cons (pg_name (i := 2) sc_is_kernel.nd rfl (.inl rfl)) (pgs_cons (pg_name (i := 3) sc_is_kernel.nd rfl (.inl rfl)) pgs_nil)))))
      (pss_cons (ps_if (pt_not (pt_val (pe_call (ok_is_head T) (hr.mono (by decide)) (by rfl) T.g_is_head T.F_is_head.kp T.b_is_head .nil pass0 (pa_cons (pv 1) (pa_cons (pv 2) pa_nil))))) (pss_one (ps_ret pe_bl)) pss_nil)
      (pss_cons (ps_set (i := 4) sc_is_kernel.nd rfl (.inl rfl) (pe_make0 T.mk_Walk (ok_init T) (hr.mono (by decide)) (by rfl) T.g_Walk T.b_init .nil pass0))
      (pss_one (ps_ret (pe_meth (pv 4) T.cl_Walk T.m_is_body (ok_walks T 10).2 (hr.mono (by decide)) T.b_is_body .nil pass0 (pa_cons (pv 3) (pa_cons (pe_call (ok_known_at_first T) (hr.mono (by decide)) (by rfl) T.g_known_at_first T.F_known_at_first.kp T.b_known_at_first .nil pass0 (pa_cons (pv 1) (pa_cons (pv 2) pa_nil))) (pa_cons pe_int (pa_cons pe_bl pa_nil))))))))))), ?_⟩
    refine ⟨_, rfl, v, d, 3, 3, rfl, hd, _, rfl, ?_⟩
    by_cases ht : tupIn 3 3 d = true
    · rw [ht]
      obtain ⟨dp, ds, db, rfl⟩ := tupIn3 ht
      cases hd with
      | @tup a xs _ h r =>
      cases r with
      | @cons vp _ _ _ pp r2 =>
      cases r2 with
      | @cons vs _ _ _ ps r3 =>
      cases r3 with
      | @cons vb _ _ _ pb r4 =>
      cases r4
      have fs := fine_tup hs
      have fp := fineAll_mem fs (.head _)
      have fh := fineAll_mem fs (.tail _ (.head _))
      have fb := fineAll_mem fs (.tail _ (.tail _ (.head _)))
      have e : kernelD (.tuple [dp, ds, db]) = (headD dp ds && restD dp ds db) := rfl
      rw [e] at q
      refine iteF ⟨_, rfl, a, _, rfl, h, rfl, _, _, rfl, _, _, rfl, _, _, rfl, rfl, _, rfl, _, rfl, vp, vs, dp, ds, rfl, pp, ps, fp, fh, fun H1 s1 => ⟨_, rfl, ?_⟩⟩
      by_cases hh : headD dp ds = true
      · rw [hh, Bool.true_and] at q
        rw [hh]
        obtain ⟨dps, dss, rfl, rfl, lp, ls, ap, as⟩ := headD_shape hh
        have e2 : restD (.tuple dps) (.tuple dss) db = (bodyD 10 false (g0 dps dss) db 0).isSome := rfl
        rw [e2] at q
        refine iteF ?_
        intro x dx nx ndx hne
        refine ⟨x, dx, rfl, upd_same, ?_⟩
        rintro _ rfl
        have s2 : Same H1 (L2.upd (L2.upd (L2.upd H1 dx (.own x)) x (.ins T.c_Walk dx [])) x (.ins T.c_Walk dx [("passed", .int 0)])) := fun b o hb => by
          rw [upd_ne (ne_of_none hb nx), upd_ne (ne_of_none hb nx), upd_ne (ne_of_none hb ndx)]
          exact hb
        have hw2 : L2.upd (L2.upd (L2.upd H1 dx (.own x)) x (.ins T.c_Walk dx [])) x (.ins T.c_Walk dx [("passed", .int 0)]) x = some (.ins T.c_Walk dx [("passed", .int 0)]) := upd_same
        generalize L2.upd (L2.upd (L2.upd H1 dx (.own x)) x (.ins T.c_Walk dx [])) x (.ins T.c_Walk dx [("passed", .int 0)]) = H2 at s2 hw2 ⊢
        have s12 := s1.trans s2
        have db1 : Dt (Mw x) K H1 vb db := Dp.dt (fun b z => by rw [z]; exact nx) (pb.same s1)
        refine ⟨rfl, _, rfl, x, dx, _, rfl, hw2, rfl, _, rfl, _, rfl, _, rfl, vp, vs, dps, dss, rfl, pp.same s12, ps.same s12, ap, as, lp, ls, fun r H3 s3 hk => ?_⟩
        refine ⟨x, vb, r, db, g0 dps dss, false, 0, rfl, ⟨dx, s3 _ _ hw2⟩, db1.off (Off.of (s2.trans s3)), fb, hk, by decide, fun H4 o4 w4 => q H4 (fun b o hb => ?_)⟩
        exact o4 b o (fun z => by have y := s1 _ _ hb; rw [z, nx] at y; cases y) (s3 _ _ (s12 _ _ hb))
      · rw [Bool.eq_false_iff.mpr hh, Bool.false_and] at q
        rw [Bool.eq_false_iff.mpr hh]
        exact iteT (q _ s1)
    · rw [Bool.eq_false_iff.mpr ht]
      rw [kernelD_no ht] at q
      exact iteT (q _ (.refl H))
def sp_check_kernel (K : PySem.W.Frag) (C : Addr) : Sp := fun vs H Q E => ∃ (v : V) (d : PyData), vs = [v] ∧ Dp K H v d ∧ fine d = true ∧
  (kernelD d = true → ∀ H', Same H H' → Q .non H') ∧ (kernelD d = false → ∀ H', Same H H' → E (.ref C) none H')
theorem ok_check_kernel (T : Tx w K mg) : FnOk P w K mg base (L2.CX P w) 61 T.a_check_kernel T.d_check_kernel ["value"] (sp_check_kernel K T.c_BadKernel) := by
  refine T.F_check_kernel.okX sc_check_kernel (fun vs H Q E h => ?_) (fun cdv A outer s H vs Q E hr h => ?_)
  · obtain ⟨v, d, rfl, _⟩ := h
    rfl
  · obtain ⟨v, d, rfl, hd, hs, q1, q2⟩ := h
    refine ⟨_, (pss_one (ps_if (pt_not (pt_val (pe_call (ok_is_kernel T) (hr.mono (by decide)) (by rfl) T.g_is_kernel T.F_is_kernel.kp T.b_is_kernel .nil pass0 (pa_cons (pv 0) pa_nil)))) (pss_one (ps_raise rfl (takes_of rfl rfl rfl rfl) (pmk_own PySem.F.excBase_ValueError T.x_BadKernel T.g_BadKernel T.k_BadKernel (raises_own T.bx_BadKernel T.ty_BadKernel) (by rfl)))) pss_nil)), ?_⟩
    refine ⟨_, rfl, v, d, rfl, hd, hs, fun H1 s1 => ⟨_, rfl, ?_⟩⟩
    by_cases hl : kernelD d = true
    · rw [hl]
      exact iteF (q1 hl _ s1)
    · have hf := Bool.eq_false_iff.mpr hl
      rw [hf]
      exact iteT (q2 hf _ s1)
/-! ### the statements by their numbers -/
def stOk : PyData → Bool
  | .tuple (.str _ :: _) => true
  | _ => false
def bodiesD : PyData → List PyData
  | .tuple (.str x :: ps) => if x = "if" ∨ x = "while" then ps.drop 1 else []
  | _ => []
def wf : Nat → PyData → Bool
  | 0, _ => false
  | n + 1, .tuple ds => ds.all fun d => stOk d && (bodiesD d).all (wf n)
  | _ + 1, _ => false
def flat : Nat → PyData → List PyData
  | 0, _ => []
  | n + 1, .tuple ds => ds.flatMap fun d => d :: (bodiesD d).flatMap (flat n)
  | _ + 1, _ => []
theorem stOk_shape {d : PyData} (h : stOk d = true) : ∃ x ps, d = .tuple (.str x :: ps) := by
  unfold stOk at h
  split at h
  · exact ⟨_, _, rfl⟩
  · cases h
theorem wf_shape {n : Nat} {d : PyData} (h : wf (n + 1) d = true) : ∃ ds, d = .tuple ds ∧ ∀ x ∈ ds, stOk x = true ∧ ∀ b ∈ bodiesD x, wf n b = true := by
  cases d with
  | tuple ds =>
    refine ⟨ds, rfl, fun x hx => ?_⟩
    have h2 : (ds.all fun d => stOk d && (bodiesD d).all (wf n)) = true := h
    have h3 := List.all_eq_true.mp h2 x hx
    rw [Bool.and_eq_true] at h3
    exact ⟨h3.1, List.all_eq_true.mp h3.2⟩
  | _ => cases h
theorem DpAll.drop {K : PySem.W.Frag} {H : Hp} : ∀ {vs : List V} {ds : List PyData} (n : Nat), DpAll K H vs ds → DpAll K H (vs.drop n) (ds.drop n)
  | _, _, 0, h => h
  | _, _, _ + 1, .nil => .nil
  | _, _, n + 1, .cons _ r => DpAll.drop n r
theorem DpAll.app {K : PySem.W.Frag} {H : Hp} : ∀ {vs us : List V} {ds es : List PyData}, DpAll K H vs ds → DpAll K H us es → DpAll K H (vs ++ us) (ds ++ es)
  | _, _, _, _, .nil, h => h
  | _, _, _, _, .cons h r, q => .cons h (DpAll.app r q)
theorem cutN (k : Nat) (xs : List V) : cutV xs (some (k : Int)) none = xs.drop k := by
  unfold cutV
  rw [HT.sIx_nat, HT.sIx_none]
  by_cases h : k ≤ xs.length
  · rw [Nat.min_eq_left h]
    exact List.take_of_length_le (by rw [List.length_drop]; omega)
  · rw [Nat.min_eq_right (by omega), List.drop_eq_nil_of_le (Nat.le_refl _), List.drop_eq_nil_of_le (by omega)]
    exact List.take_nil
theorem cutNot {n k : Nat} (hk : 0 < k) (h : 1 ≤ n) : ¬ (HT.sIx n 0 (some (k : Int)) = 0 ∧ HT.sIx n n none = n) := by
  rintro ⟨z, _⟩
  rw [HT.sIx_nat] at z
  omega
def sp_bodies (K : PySem.W.Frag) : Sp := fun vs H Q _ => ∃ (v : V) (d : PyData) (H0 : Hp), vs = [v] ∧ Dp K H0 v d ∧ Same H0 H ∧ stOk d = true ∧ ∀ r H' zs, Same H H' → SqT K H' r zs → DpAll K H0 zs (bodiesD d) → Q (.ref r) H'
theorem ok_bodies (T : Tx w K mg) : FnOk P w K mg base CX0 1 T.a_bodies T.d_bodies ["statement"] (sp_bodies K) := by
  refine T.F_bodies.ok sc_bodies (fun vs H Q E h => ?_) (fun cdv A outer s H vs Q E hr h => ?_)
  · obtain ⟨v, d, H0, rfl, _⟩ := h
    rfl
  · obtain ⟨v, d, H0, rfl, hd, s0, hok, q⟩ := h
    obtain ⟨x, ps, rfl⟩ := stOk_shape hok
    refine ⟨_, (pss_one (ps_ret (pe_ifExp (pt_cmpR op_in_seq (pe_ix ix_tup (pv 0) pe_int (fun _ _ => rfl)) (pe_tup (pa_cons pe_str (pa_cons pe_str pa_nil))) (by rfl)) (pe_slice sl_tup (pv 0) (po_some pe_int) po_none) (pe_tup pa_nil)))), ?_⟩
    cases hd with
    | @tup a xs _ h r =>
    cases r with
    | @cons v0 vs _ _ p0 r2 =>
    cases p0
    refine ⟨_, rfl, a, _, 0, .str x, rfl, rfl, Same.sqt s0 h, atI_head, by decide +kernel, fun t nt => ⟨t, _, rfl, .inr (SqT.of upd_same), rfl, rfl, _, rfl, ?_⟩⟩
    rw [inV2]
    have s1 := same_new5 (o := .tup [.str "if", .str "while"]) nt
    by_cases hx : x = "if" ∨ x = "while"
    · have eb : bodiesD (.tuple (.str x :: ps)) = ps.drop 1 := if_pos hx
      rw [eb] at q
      refine iteY (decide_eq_true hx) ?_
      refine ⟨_, rfl, _, rfl, ?_⟩
      dsimp only [tNoPart]
      refine ⟨a, .str x :: vs, rfl, Same.sqt (s0.trans s1) h, cutNot (k := 2) (by decide) (by rw [List.length_cons]; omega), fun p np => ?_⟩
      have e2 := cutN 2 (V.str x :: vs)
      replace e2 : cutV (V.str x :: vs) (some 2) none = vs.drop 1 := e2
      rw [e2]
      have s2 := same_new5 (o := .tup (vs.drop 1)) np
      exact q p _ _ (s1.trans s2) (SqT.of upd_same) (DpAll.drop 1 r2)
    · have eb : bodiesD (.tuple (.str x :: ps)) = [] := if_neg hx
      rw [eb] at q
      refine iteN (by rw [decide_eq_false hx]; exact Bool.false_ne_true) ?_
      refine ⟨Nat.zero_le _, fun p np => ?_⟩
      exact q p _ [] (s1.trans (same_new5 (o := .tup []) np)) (SqT.of upd_same) .nil
theorem flen {α β : Type} (f : α → List β) (xs : List α) (i : Nat) : ((xs.take i).flatMap f).length ≤ (xs.flatMap f).length := by
  have e : (xs.flatMap f).length = ((xs.take i).flatMap f).length + ((xs.drop i).flatMap f).length := by
    rw [← List.length_append, ← List.flatMap_append, List.take_append_drop]
  omega
theorem fstep {α β : Type} (f : α → List β) (xs : List α) (i : Nat) (x : α) (h : xs[i]? = some x) : (xs.take (i + 1)).flatMap f = (xs.take i).flatMap f ++ f x := by
  rw [List.take_add_one, h, List.flatMap_append]
  simp
theorem fone {α β : Type} (f : α → List β) (xs : List α) (i : Nat) (x : α) (h : xs[i]? = some x) : (f x).length ≤ (xs.flatMap f).length := by
  have a := flen f xs (i + 1)
  rw [fstep f xs i x h, List.length_append] at a
  omega
theorem sqt_keep {K : PySem.W.Frag} {H H' : Hp} {a F : Addr} {xs gs : List V} (hF : H F = some (.lst gs)) (e : Off (fun b => b = F) H H') (h : SqT K H a xs) : SqT K H' a xs := by
  rcases h with (h | ⟨o, h⟩) | h
  · exact .inl (.inl (e _ _ (fun z => by rw [z, hF] at h; cases h) h))
  · exact .inl (.inr ⟨o, e _ _ (fun z => by rw [z, hF] at h; cases h) h⟩)
  · exact .inr h
def sp_stmts (K : PySem.W.Frag) (n : Nat) : Sp := fun vs H Q _ => ∃ (v : V) (d : PyData) (H0 : Hp), vs = [v] ∧ Dp K H0 v d ∧ Same H0 H ∧ wf n d = true ∧ (flat n d).length ≤ 1000 ∧
  ∀ a H' xs, Same H H' → H a = none → H' a = some (.lst xs) → DpAll K H0 xs (flat n d) → Q (.ref a) H'
theorem ok_stmts (T : Tx w K mg) : ∀ n : Nat, FnOk P w K mg base CX0 (n + 3) T.a_statements_in T.d_statements_in ["body"] (sp_stmts K n)
  | 0 => T.F_statements_in.ok sc_statements_in (fun vs H Q E h => by obtain ⟨v, d, H0, rfl, _⟩ := h; rfl) (fun cdv A outer s H vs Q E hr h => by obtain ⟨v, d, H0, rfl, _, _, z, _⟩ := h; cases z)
  | n + 1 => by
    have hsi := ok_stmts T n
    refine T.F_statements_in.ok sc_statements_in (fun vs H Q E h => ?_) (fun cdv A outer s H vs Q E hr h => ?_)
    · obtain ⟨v, d, H0, rfl, _⟩ := h
      rfl
    · obtain ⟨v, d, H0, rfl, hd, s0, hwf, hlen, q⟩ := h
      obtain ⟨ds, rfl, hall⟩ := wf_shape hwf
      refine ⟨_, (pss_cons (ps_set (i := 1) sc_statements_in.nd rfl (.inl rfl) (pe_lst pa_nil))
      (pss_cons (ps_for PassesOwn.never rfl (pi_tup (pv 0)) (pg_name (i := 2) sc_statements_in.nd rfl (.inl rfl)) (pss_cons (ps_expr (pe_bm PySem.F.plainAttrs_list PySem.F.slot_list_append PySem.F.type_list_append mt_append (pv 1) (pa_cons (pv 2) pa_nil)))
      (pss_one (ps_for PassesOwn.never rfl (pi_tup (pe_call (ok_bodies T) (hr.mono (by omega)) (by rfl) T.g_bodies T.F_bodies.kp T.b_bodies .nil pass0 (pa_cons (pv 2) pa_nil))) (pg_name (i := 3) sc_statements_in.nd rfl (.inl rfl)) (pss_one (ps_expr (pe_bm PySem.F.plainAttrs_list PySem.F.slot_list_extend PySem.F.type_list_extend mt_extend (pv 1) (pa_cons (pe_call hsi (hr.mono (by omega)) (by rfl) T.g_statements_in T.F_statements_in.kp T.b_statements_in .nil pass0 (pa_cons (pv 3) pa_nil)) pa_nil))))))))
      (pss_one (ps_ret (pv 1))))), ?_⟩
      cases hd with
      | @tup a xs _ h r =>
      refine ⟨Nat.zero_le _, fun F nF => ?_⟩
      have s1 := same_new5 (o := .lst []) nF
      have back : ∀ H', Off (fun b => b = F) H H' → Same H H' := fun H' e b o hb => e b o (fun z => by rw [z, nF] at hb; cases hb) hb
      have eF : flat (n + 1) (.tuple ds) = ds.flatMap fun d => d :: (bodiesD d).flatMap (flat n) := rfl
      rw [eF] at hlen q
      refine ⟨_, rfl, a, rfl, ⟨_, Same.sqt (s0.trans s1) h⟩, for_tup (K := K) (a := a) (xs := xs) (fun i σ H' => ∃ (y2 y3 : Option V) (fs : List V), σ = [some (.ref a), some (.ref F), y2, y3] ∧ H' F = some (.lst fs) ∧ DpAll K H0 fs ((ds.take i).flatMap fun d => d :: (bodiesD d).flatMap (flat n)) ∧ Off (fun b => b = F) H H')
        ⟨none, none, [], rfl, upd_same, .nil, .of s1⟩ (fun i σ H' _ ⟨_, _, _, _, _, _, e⟩ => Same.sqt (s0.trans (back _ e)) h) ?_ ?_⟩
      · rintro i x1 σ H1 hx ⟨y2, y3, fs, rfl, hF, dF, o1⟩
        obtain ⟨dy, edy, pdy⟩ := r.get hx
        have hmem := hall dy (List.mem_of_getElem? edy)
        have est := fstep (fun d => d :: (bodiesD d).flatMap (flat n)) ds i dy edy
        have el := flen (fun d => d :: (bodiesD d).flatMap (flat n)) ds (i + 1)
        rw [est, List.length_append, List.length_cons] at el
        have lF := dF.len
        refine ⟨_, rfl, .inl ⟨rfl, _, SqL.of hF⟩, _, rfl, F, fs, x1, rfl, rfl, hF, small1000 (by omega), ?_⟩
        have hF2 : L2.upd H1 F (.lst (fs ++ [x1])) F = some (.lst (fs ++ [x1])) := upd_same
        have o2 : Off (fun b => b = F) H (L2.upd H1 F (.lst (fs ++ [x1]))) := fun b o nb hb => (upd_ne nb).trans (o1 b o nb hb)
        generalize L2.upd H1 F (.lst (fs ++ [x1])) = H2 at hF2 o2 ⊢
        refine ⟨_, rfl, x1, dy, H0, rfl, pdy, s0.trans (back _ o2), hmem.1, fun rr H3 zs s3 hz rz => ?_⟩
        refine ⟨rr, rfl, ⟨_, hz⟩, for_tup (K := K) (a := rr) (xs := zs) (fun j σ H' => ∃ (y3 : Option V) (gs : List V), σ = [some (.ref a), some (.ref F), some x1, y3] ∧ H' F = some (.lst gs) ∧ DpAll K H0 gs (((ds.take i).flatMap fun d => d :: (bodiesD d).flatMap (flat n)) ++ (dy :: ((bodiesD dy).take j).flatMap (flat n))) ∧ Off (fun b => b = F) H H' ∧ SqT K H' rr zs)
          ⟨y3, fs ++ [x1], rfl, s3 _ _ hF2, DpAll.app dF (.cons pdy .nil), o2.trans (.of s3), hz⟩ (fun j σ H' _ ⟨_, _, _, _, _, _, e⟩ => e) ?_ ?_⟩
        · rintro j z1 σ H4 hz1 ⟨y3, gs, rfl, hF4, dF4, o4, hz4⟩
          obtain ⟨db, edb, pdb⟩ := rz.get hz1
          have el2 := flen (flat n) (bodiesD dy) (j + 1)
          rw [fstep (flat n) (bodiesD dy) j db edb, List.length_append] at el2
          have lF4 := dF4.len
          rw [List.length_append, List.length_cons] at lF4
          refine ⟨_, rfl, .inl ⟨rfl, _, SqL.of hF4⟩, _, rfl, z1, db, H0, rfl, pdb, s0.trans (back _ o4), hmem.2 db (List.mem_of_getElem? edb), by omega, fun b H6 us s6 nb hb rb => ?_⟩
          have lu := rb.len
          refine ⟨F, b, gs, us, rfl, rfl, s6 _ _ hF4, hb, small1000 (by omega) |> Nat.le_of_lt, ?_⟩
          have o6 : Off (fun b => b = F) H (L2.upd H6 F (.lst (gs ++ us))) := fun b o nb hb => (upd_ne nb).trans (s6 _ _ (o4 b o nb hb))
          refine ⟨_, gs ++ us, rfl, upd_same, ?_, o6, sqt_keep (s6 _ _ hF4) (fun b o nb hb => (upd_ne nb).trans hb) (Same.sqt s6 hz4)⟩
          have e3 := DpAll.app dF4 rb
          rw [fstep (flat n) (bodiesD dy) j db edb]
          rw [List.append_assoc] at e3
          exact e3
        · rintro σ H4 ⟨y3, gs, rfl, hF4, dF4, o4, hz4⟩
          rw [rz.len, List.take_length] at dF4
          exact ⟨_, _, gs, rfl, hF4, by rw [est]; exact dF4, o4⟩
      · rintro σ H1 ⟨y2, y3, fs, rfl, hF, dF, o1⟩
        rw [r.len, List.take_length] at dF
        exact ⟨_, rfl, q F H1 fs (back _ o1) nF hF dF⟩
def sp_statements (K : PySem.W.Frag) : Sp := fun vs H Q _ => ∃ (v : V) (p s b : PyData), vs = [v] ∧ Dp K H v (.tuple [p, s, b]) ∧ wf 10 b = true ∧ (flat 10 b).length ≤ 1000 ∧
  ∀ a H' xs, Same H H' → H a = none → H' a = some (.lst xs) → DpAll K H xs (flat 10 b) → Q (.ref a) H'
theorem ok_statements (T : Tx w K mg) : FnOk P w K mg base CX0 14 T.a_statements T.d_statements ["kernel"] (sp_statements K) := by
  refine T.F_statements.ok sc_statements (fun vs H Q E h => ?_) (fun cdv A outer s H vs Q E hr h => ?_)
  · obtain ⟨v, p, s, b, rfl, _⟩ := h
    rfl
  · obtain ⟨v, dp, ds, db, rfl, hd, hw, hl, q⟩ := h
    refine ⟨_, (pss_one (ps_ret (pe_call (ok_stmts T 10) (hr.mono (by decide)) (by rfl) T.g_statements_in T.F_statements_in.kp T.b_statements_in .nil pass0 (pa_cons (pe_ix ix_tup (pv 0) pe_int (fun _ _ => rfl)) pa_nil)))), ?_⟩
    cases hd with
    | @tup a xs _ h r =>
    cases r with
    | @cons vp _ _ _ pp r2 =>
    cases r2 with
    | @cons vs _ _ _ ps r3 =>
    cases r3 with
    | @cons vb _ _ _ pb r4 =>
    cases r4
    exact ⟨_, rfl, a, _, 2, vb, rfl, rfl, h, atI_nat (i := 2) rfl, vb, db, H, rfl, pb, .refl H, hw, hl, fun a H' xs s n e d => q a H' xs s n e d⟩

/-! ### the law's stream of draws -/
/-- at p: a stream; which numbers it gives is left open -/
def Strm (q : Addr) (H : Hp) (p : Addr) : Prop := ∃ (cur pos mixed : Int) (ns : List Int), H p = some (.lst [.ref q, .int cur, .int pos, .int mixed]) ∧ H q = some (.lst (ns.map V.int)) ∧
  0 ≤ cur ∧ 0 ≤ pos ∧ pos ≤ ns.length ∧ ns.length ≤ 63 ∧ 0 ≤ mixed ∧ mixed < 2147483647
def But (p : Addr) (H H' : Hp) : Prop := ∀ b o, b ≠ p → H b = some o → H' b = some o
theorem But.refl {p : Addr} {H : Hp} : But p H H := fun _ _ _ h => h
theorem But.trans {p : Addr} {H H1 H2 : Hp} (a : But p H H1) (b : But p H1 H2) : But p H H2 := fun c o n h => b c o n (a c o n h)
theorem But.same {p : Addr} {H H1 H2 : Hp} (a : But p H H1) (b : Same H1 H2) : But p H H2 := fun c o n h => b c o (a c o n h)
theorem But.upd {p : Addr} {H H1 : Hp} {o : HO} (a : But p H H1) : But p H (L2.upd H1 p o) := fun c u n h => by rw [upd_ne n]; exact a c u n h
theorem same_new {H : Hp} {p : Addr} {o : HO} (h : H p = none) : Same H (upd H p o) := fun b x e => by
  rw [upd_ne (ne_of_none e h)]
  exact e
theorem Strm.same {q : Addr} {H H' : Hp} {p : Addr} (s : Strm q H p) (h : Same H H') : Strm q H' p := by
  obtain ⟨cur, pos, mixed, ns, e1, e2, r⟩ := s
  exact ⟨cur, pos, mixed, ns, h _ _ e1, h _ _ e2, r⟩
theorem Strm.upd {q : Addr} {H : Hp} {p D : Addr} {o : HO} (s : Strm q H p) (np : D ≠ p) (nq : D ≠ q) : Strm q (upd H D o) p := by
  obtain ⟨cur, pos, mixed, ns, e1, e2, r⟩ := s
  exact ⟨cur, pos, mixed, ns, by rw [upd_ne np.symm]; exact e1, by rw [upd_ne nq.symm]; exact e2, r⟩
theorem Strm.nep {q : Addr} {H : Hp} {p D : Addr} (s : Strm q H p) (h : H D = none) : D ≠ p := fun e => by
  obtain ⟨cur, pos, mixed, ns, e1, _⟩ := s
  rw [e, e1] at h
  cases h
theorem Strm.neq {q : Addr} {H : Hp} {p D : Addr} (s : Strm q H p) (h : H D = none) : D ≠ q := fun e => by
  obtain ⟨cur, pos, mixed, ns, _, e2, _⟩ := s
  rw [e, e2] at h
  cases h
theorem Strm.pq {q : Addr} {H : Hp} {p : Addr} (s : Strm q H p) : q ≠ p := fun z => by
  obtain ⟨cur, pos, mixed, ns, e1, e2, _⟩ := s
  rw [z, e1] at e2
  cases ns with
  | nil => cases e2
  | cons x r => cases e2
def sp_law_stream (K : PySem.W.Frag) : Sp := fun vs H Q _ => ∃ (a : Addr) (ns : List Int), vs = [.ref a] ∧ SqL K H a (ns.map V.int) ∧ ns.length ≤ 63 ∧ ∀ H' p q, Same H H' → H p = none → H q = none → Strm q H' p → Q (.ref p) H'
def sp_law_draw : Sp := fun vs H Q _ => ∃ (p q : Addr) (many : Int), vs = [.ref p, .int many] ∧ Strm q H p ∧ 0 < many ∧ many < 2 ^ 100 ∧ ∀ (v : Int) H', 0 ≤ v → v < many → But p H H' → Strm q H' p → Q (.int v) H'
theorem ok_law_stream (T : Tx w K mg) : FnOk P w K mg base CX0 1 T.a_law_stream T.d_law_stream ["script"] (sp_law_stream K) := by
  refine T.F_law_stream.ok sc_law_stream (fun vs H Q E h => ?_) (fun cdv A outer s H vs Q E hr h => ?_)
  · obtain ⟨a, ns, rfl, _⟩ := h
    rfl
  · obtain ⟨a, ns, rfl, hS, hlen, q⟩ := h
    refine ⟨_, (pss_cons (ps_set (i := 1) sc_law_stream.nd rfl (.inl rfl) pe_int)
      (pss_cons (ps_for PassesOwn.never rfl (pi_list (pv 0)) (pg_name (i := 2) sc_law_stream.nd rfl (.inl rfl)) (pss_one (ps_set (i := 1) sc_law_stream.nd rfl (.inl rfl) (pe_op op_mod (pe_callTy call_int1 (by rfl) T.z_int (by decide +kernel) (pa_cons (pe_op op_add (pe_op op_add (pe_op op_mul (pv 1) pe_int) (pe_op op_mod (pe_callTy call_int1 (by rfl) T.z_int (by decide +kernel) (pa_cons (pv 2) pa_nil)) pe_int)) pe_int) pa_nil)) pe_int))))
      (pss_one (ps_ret (pe_lst (pa_cons (pe_callTy call_list_of (by rfl) T.z_list (by decide +kernel) (pa_cons (pv 0) pa_nil)) (pa_cons pe_int (pa_cons pe_int (pa_cons (pv 1) pa_nil))))))))), ?_⟩
    refine ⟨_, rfl, a, rfl, ⟨_, hS⟩, for_list (K := K) (a := a) (xs := ns.map V.int) (fun i σ H' => ∃ (m : Int) (c : Option V), σ = [some (.ref a), some (.int m), c] ∧ 0 ≤ m ∧ m < 2147483647 ∧ H' = H) ⟨17, none, rfl, by decide, by decide, rfl⟩ (fun i σ H' _ ⟨_, _, _, _, _, e⟩ => by rw [e]; exact hS) ?_ ?_⟩
    · rintro i x σ H' hx ⟨m, c, rfl, h0, h1, rfl⟩
      obtain ⟨n, rfl⟩ : ∃ n, x = V.int n := by
        rw [List.getElem?_map] at hx
        cases e : ns[i]? with
        | none => rw [e] at hx; cases hx
        | some u => rw [e] at hx; exact ⟨u, (Option.some.inj hx).symm⟩
      refine ⟨_, rfl, _, _, rfl, rfl, .inl ⟨by omega, by omega⟩, _, rfl, .inl ⟨_, rfl, _, _, rfl, rfl, (by show (0 : Int) < 65521; decide), _, _, rfl, rfl, _, _, rfl, rfl, .inl ⟨_, rfl, _, _, rfl, rfl, (by show (0 : Int) < 2147483647; decide), ?_⟩⟩⟩
      exact ⟨_, _, rfl, Int.emod_nonneg _ (by decide), Int.emod_lt_of_pos _ (by decide), rfl⟩
    · rintro σ H' ⟨m, c, rfl, h0, h1, rfl⟩
      refine ⟨_, rfl, a, _, rfl, .inl hS, fun l nl => ⟨_, rfl, (by show 4 ≤ sizeLine; decide), fun p np => ?_⟩⟩
      have npl : p ≠ l := fun e => by rw [e, upd_same] at np; cases np
      have np0 : H' p = none := by rw [upd_ne npl] at np; exact np
      refine q _ p l ((same_new nl).trans (same_new np)) np0 nl ⟨0, 0, m, ns, upd_same, ?_, by decide, by decide, by omega, hlen, h0, h1⟩
      rw [upd_ne npl.symm, upd_same]
theorem ok_law_draw (T : Tx w K mg) : FnOk P w K mg base CX0 1 T.a_law_draw T.d_law_draw ["stream", "many"] sp_law_draw := by
  refine T.F_law_draw.ok sc_law_draw (fun vs H Q E h => ?_) (fun cdv A outer s H vs Q E hr h => ?_)
  · obtain ⟨p, q, many, rfl, _⟩ := h
    rfl
  · obtain ⟨p, q, many, rfl, hS, hm0, hm1, k⟩ := h
    refine ⟨_, (C8.pss_cut (ps_if (PW.pt (pw_and (pt_cmpR op_eq (pe_ix ix_list (pv 0) pe_int (fun _ _ => rfl)) pe_int (nomark _)) (pw_and1 (pt_cmpR op_lt (pe_ix ix_list (pv 0) pe_int (fun _ _ => rfl)) (pe_callB call_len_seq (by rfl) T.z_len (by decide +kernel) (pa_cons (pe_ix ix_list (pv 0) pe_int (fun _ _ => rfl)) pa_nil)) (nomark _))))) (pss_cons (ps_asg (pe_callB call_abs (by rfl) T.z_abs (by decide +kernel) (pa_cons (pe_callTy call_int1 (by rfl) T.z_int (by decide +kernel) (pa_cons (pe_ix ix_list (pe_ix ix_list (pv 0) pe_int (fun _ _ => rfl)) (pe_ix ix_list (pv 0) pe_int (fun _ _ => rfl)) (fun _ _ => rfl)) pa_nil)) pa_nil)) (pg_sub (pv 0) pe_int set_list))
      (pss_one (ps_asg (pe_op op_add (pe_ix ix_list (pv 0) pe_int (fun _ _ => rfl)) pe_int) (pg_sub (pv 0) pe_int set_list)))) pss_nil)
      (pss_cons (ps_if (pt_cmpR op_eq (pe_ix ix_list (pv 0) pe_int (fun _ _ => rfl)) pe_int (nomark _)) (pss_cons (ps_asg (pe_op op_mod (pe_callTy call_int1 (by rfl) T.z_int (by decide +kernel) (pa_cons (pe_op op_add (pe_op op_mul (pe_ix ix_list (pv 0) pe_int (fun _ _ => rfl)) pe_int) pe_int) pa_nil)) pe_int) (pg_sub (pv 0) pe_int set_list))
      (pss_one (ps_ret (pe_op op_mod (pe_callTy call_int1 (by rfl) T.z_int (by decide +kernel) (pa_cons (pe_op op_fdivW (pe_ix ix_list (pv 0) pe_int (fun _ _ => rfl)) pe_int) pa_nil)) (pv 1))))) pss_nil)
      (pss_cons (ps_set (i := 2) sc_law_draw.nd rfl (.inl rfl) (pe_op op_mod (pe_callTy call_int1 (by rfl) T.z_int (by decide +kernel) (pa_cons (pe_ix ix_list (pv 0) pe_int (fun _ _ => rfl)) pa_nil)) (pv 1)))
      (pss_cons (ps_asg (pe_op op_fdivW (pe_ix ix_list (pv 0) pe_int (fun _ _ => rfl)) (pv 1)) (pg_sub (pv 0) pe_int set_list))
      (pss_one (ps_ret (pv 2))))))), ?_⟩
    refine ⟨fun σ' H' => σ' = [some (.ref p), some (.int many), none] ∧ But p H H' ∧ Strm q H' p, ?_, ?_⟩
    · have hS0 := hS
      obtain ⟨cur, pos, mixed, ns, e1, e2, c0, p0, p1, l63, m0, m1⟩ := hS
      have nqp : q ≠ p := hS0.pq
      refine ⟨_, rfl, p, _, 1, _, rfl, rfl, SqL.of e1, rfl, rfl, _, rfl, ite2 (fun z1 => ?_) (fun z1 => iteF ⟨rfl, .refl, hS0⟩)⟩
      refine ⟨_, rfl, p, _, 2, _, rfl, rfl, SqL.of e1, rfl, _, rfl, p, _, 0, _, rfl, rfl, SqL.of e1, rfl, q, _, rfl, .inl (SqL.of e2), _, _, rfl, rfl, _, rfl, ite2 (fun z2 => ?_) (fun z2 => ⟨rfl, .refl, hS0⟩)⟩
      have hlt : pos < ns.length := by
        have z3 := of_decide_eq_true z2
        rw [List.length_map] at z3
        exact z3
      obtain ⟨j, rfl⟩ : ∃ j : Nat, pos = (j : Int) := ⟨pos.toNat, by omega⟩
      have hj : j < ns.length := by omega
      have g : (ns.map V.int)[j]? = some (.int ns[j]) := by
        rw [List.getElem?_map, List.getElem?_eq_getElem hj]
        rfl
      refine ⟨_, rfl, p, _, 0, _, rfl, rfl, SqL.of e1, rfl, _, rfl, p, _, 2, _, rfl, rfl, SqL.of e1, rfl, q, _, _, _, rfl, rfl, SqL.of e2, atI_nat g, .inl ⟨_, rfl, _, rfl, ?_⟩⟩
      refine ⟨_, rfl, p, _, 1, 1, rfl, rfl, e1, rfl, ?_⟩
      refine ⟨_, rfl, p, _, 2, _, rfl, rfl, SqL.of upd_same, rfl, _, _, rfl, rfl, _, rfl, p, _, 2, 2, rfl, rfl, upd_same, rfl, ?_⟩
      refine ⟨rfl, But.upd (But.upd .refl), (if ns[j] < 0 then -ns[j] else ns[j]), (j : Int) + 1, mixed, ns, upd_same, ?_, by split <;> omega, by omega, by omega, l63, m0, m1⟩
      rw [upd_ne nqp, upd_ne nqp]
      exact e2
    · rintro σ' H' ⟨rfl, hB, hS2⟩
      have nqp : q ≠ p := hS2.pq
      obtain ⟨cur, pos, mixed, ns, e1, e2, c0, p0, p1, l63, m0, m1⟩ := hS2
      refine ⟨_, rfl, p, _, 1, _, rfl, rfl, SqL.of e1, rfl, rfl, _, rfl, ite2 (fun z1 => ?_) (fun z1 => ?_)⟩
      · refine ⟨_, rfl, p, _, 3, _, rfl, rfl, SqL.of e1, rfl, _, _, rfl, rfl, .inl ⟨by omega, by omega⟩, _, _, rfl, rfl, .inl ⟨_, rfl, _, _, rfl, rfl, (by show (0 : Int) < 2147483647; decide), ?_⟩⟩
        refine ⟨_, rfl, p, _, 3, 3, rfl, rfl, e1, rfl, ?_⟩
        refine ⟨_, rfl, p, _, 3, _, rfl, rfl, SqL.of upd_same, rfl, _, _, rfl, rfl, wide_div (b := 8) (by decide) (by decide) (by decide) (by decide), .inl ⟨_, rfl, _, rfl, _, _, rfl, rfl, hm0, ?_⟩⟩
        refine k _ _ (Int.emod_nonneg _ (by omega)) (Int.emod_lt_of_pos _ hm0) (But.upd hB) ⟨cur, pos, _, ns, upd_same, by rw [upd_ne nqp]; exact e2, c0, p0, p1, l63, Int.emod_nonneg _ (by decide), Int.emod_lt_of_pos _ (by decide)⟩
      · refine ⟨_, rfl, p, _, 1, _, rfl, rfl, SqL.of e1, rfl, .inl ⟨_, rfl, _, rfl, _, _, rfl, rfl, hm0, ?_⟩⟩
        have hw : CDivW cur many := wide_div (b := 100) hm0 (by omega) (by decide) (by decide)
        refine ⟨_, rfl, p, _, 1, _, rfl, rfl, SqL.of e1, rfl, _, rfl, _, _, rfl, rfl, hw, _, rfl, p, _, 1, 1, rfl, rfl, e1, rfl, _, rfl, ?_⟩
        exact k _ _ (Int.emod_nonneg _ (by omega)) (Int.emod_lt_of_pos _ hm0) (But.upd hB) ⟨_, pos, _, ns, upd_same, by rw [upd_ne nqp]; exact e2, Int.ediv_nonneg c0 (by omega), p0, p1, l63, m0, m1⟩
def sp_law_given : Sp := fun vs H Q _ => vs = [.non] ∧ Q .non H
theorem ok_law_given (T : Tx w K mg) : FnOk P w K mg base CX0 1 T.a_law_given T.d_law_given ["told"] sp_law_given := by
  refine T.F_law_given.ok sc_law_given (fun vs H Q E h => ?_) (fun cdv A outer s H vs Q E hr h => ?_)
  · obtain ⟨rfl, _⟩ := h
    rfl
  · obtain ⟨rfl, q⟩ := h
    refine ⟨_, (pss_cons (ps_if (PW.pt (pw_and (pt_val (pe_callB call_isi (by rfl) T.z_isinstance (by decide +kernel) (pa_cons (pv 0) (pa_cons (pe_bltn (v := .ty "tuple") (u := .type "tuple") (by rfl) T.z_tuple (by decide +kernel) rfl) pa_nil)))) (pw_and1 (pt_cmpR (op_eqD hr.units) (pe_slice sl_tup (pv 0) po_none (po_some pe_int)) (pe_tup (pa_cons pe_str pa_nil)) (nomark _))))) (pss_one (ps_ret (pe_lst (pa_cons pe_str pa_nil)))) pss_nil)
      (pss_one (ps_ret (pv 0)))), ?_⟩
    exact ⟨_, rfl, _, _, _, _, _, rfl, .ty "tuple", .base .non, kit_tup .none, _, rfl, iteF ⟨_, rfl, q⟩⟩
def refused (x : Str) : PyData := .tuple [.str "refused", .str x]
def sp_law_told (K : PySem.W.Frag) : Sp := fun vs H Q _ => ∃ (v : V) (d : PyData), vs = [v] ∧ Dp K H v d ∧ fine d = true ∧
  (kernelD d = true → ∀ H', Same H H' → Q .non H') ∧ (kernelD d = false → ∀ H' r, Same H H' → Dp K H' r (refused "kernel") → Q r H')
theorem ok_law_told (T : Tx w K mg) : FnOk P w K mg base CX0 70 T.a_law_told T.d_law_told ["value"] (sp_law_told K) := by
  refine T.F_law_told.ok sc_law_told (fun vs H Q E h => ?_) (fun cdv A outer s H vs Q E hr h => ?_)
  · obtain ⟨v, d, rfl, _⟩ := h
    rfl
  · obtain ⟨v, d, rfl, hd, hs, q1, q2⟩ := h
    refine ⟨_, (pss_one (ps_try_only rfl rfl ⟨rfl, by decide, .inl T.g_BadKernel⟩ takes0 (fun W pn xe tk _ => (pss_one (ps_ret (pe_call (ok_law_given T) (hr.mono (by decide)) (by rfl) T.g_law_given T.F_law_given.kp T.b_law_given .nil pass0 (pa_cons (pe_callS (ok_check_kernel T) (hr.mono (by decide)) (by rfl) T.g_check_kernel T.F_check_kernel.kp T.b_check_kernel (fun σ => passAt tk σ) (pa_cons (pv 0) pa_nil)) pa_nil))))) (fun a oe cls d pn hz hf => (pss_one (ps_ret (pe_tup (pa_cons pe_str (pa_cons pe_str pa_nil)))))))), ?_⟩
    have eP : PySem.W.exmOne K (.ref T.c_BadKernel) (.ref T.c_BadKernel) = some true := PySem.W.exm_ref T.bx_BadKernel T.hd_BadKernel T.ty_BadKernel T.me_BadKernel
    refine ⟨_, rfl, v, d, rfl, hd, hs, fun hl H1 s1 => ?_, fun hl H1 s1 => ?_⟩
    · exact ⟨rfl, q1 hl _ s1⟩
    · refine ⟨true, eP, fun _ a na => ?_, fun z => nomatch z⟩
      refine ⟨(by show 2 ≤ sizeLine; decide), fun p np => q2 hl _ _ (s1.trans (same_new5 np)) ?_⟩
      exact .tup (SqT.of upd_same) (.cons (.str _) (.cons (.str _) .nil))
theorem look_cases {x : Str} {ss : List Str} (h : look stmtTab x = some ss) :
    (x = "if" ∧ ss = (["expression", "body", "body"] : List Str)) ∨ (x = "while" ∧ ss = (["expression", "body"] : List Str)) ∨ (¬ (x = "if" ∨ x = "while") ∧ ∀ s ∈ ss, s ≠ "body") := by
  unfold stmtTab at h
  simp only [look] at h
  repeat' split at h
  all_goals first
    | (cases h; done)
    | (rename_i e; subst e; cases h; exact .inl ⟨rfl, rfl⟩)
    | (rename_i e; subst e; cases h; exact .inr (.inl ⟨rfl, rfl⟩))
    | (rename_i e; subst e; cases h; exact .inr (.inr (by decide +kernel)))
theorem partsS_same {bd : PyData → Nat → Option Nat} {g : Kn} : ∀ (ss : List Str) (ds : List PyData) (c c' : Nat), (∀ s ∈ ss, s ≠ "body") → partsS bd g ss ds c = some c' → c' = c
  | s :: ss, d :: ds, c, c', hn, h => by
    unfold partsS at h
    rw [if_neg (hn s (.head _))] at h
    obtain ⟨c1, h1, h2⟩ := Option.bind_eq_some_iff.mp h
    have e := partsS_same ss ds c1 c' (fun s m => hn s (.tail _ m)) h2
    split at h1
    · cases h1; exact e
    · cases h1
  | [], _, c, c', _, h => by unfold partsS at h; cases h; rfl
  | _ :: _, [], c, c', _, h => by unfold partsS at h; cases h; rfl
theorem partsS_expr {bd : PyData → Nat → Option Nat} {g : Kn} {ss : List Str} {e : PyData} {ds : List PyData} {c c' : Nat} (h : partsS bd g ("expression" :: ss) (e :: ds) c = some c') : partsS bd g ss ds c = some c' := by
  unfold partsS at h
  rw [if_neg (by decide +kernel)] at h
  obtain ⟨c1, h1, h2⟩ := Option.bind_eq_some_iff.mp h
  split at h1
  · cases h1; exact h2
  · cases h1
theorem partsS_body {bd : PyData → Nat → Option Nat} {g : Kn} {ss : List Str} {e : PyData} {ds : List PyData} {c c' : Nat} (h : partsS bd g ("body" :: ss) (e :: ds) c = some c') : ∃ c1, bd e c = some c1 ∧ partsS bd g ss ds c1 = some c' := by
  unfold partsS at h
  rw [if_pos rfl] at h
  exact Option.bind_eq_some_iff.mp h
theorem bodiesD_yes {x : Str} {ps : List PyData} (h : x = "if" ∨ x = "while") : bodiesD (.tuple (.str x :: ps)) = ps.drop 1 := if_pos h
theorem stmt_flat {n : Nat} (ih : ∀ lp g d c c', bodyD n lp g d c = some c' → wf n d = true ∧ c + (flat n d).length = c') {lp : Bool} {g : Kn} {d : PyData} {c c' : Nat} (h : stmtP (bodyD n) lp g d c = some c') :
    stOk d = true ∧ (bodiesD d).all (wf n) = true ∧ c + 1 + ((bodiesD d).flatMap (flat n)).length = c' := by
  unfold stmtP at h
  split at h
  · next x ps =>
    split at h
    · next ss hl =>
      split at h
      · next hz =>
        refine ⟨rfl, ?_⟩
        rcases look_cases hl with ⟨rfl, rfl⟩ | ⟨rfl, rfl⟩ | ⟨hx, hn⟩
        · match ps, hz.1 with
          | [e, b1, b2], _ =>
            obtain ⟨c1, h1, h⟩ := partsS_body (partsS_expr h)
            obtain ⟨c2, h2, h⟩ := partsS_body h
            unfold partsS at h
            cases h
            obtain ⟨w1, l1⟩ := ih _ _ _ _ _ h1
            obtain ⟨w2, l2⟩ := ih _ _ _ _ _ h2
            have eb : bodiesD (.tuple [.str "if", e, b1, b2]) = [b1, b2] := bodiesD_yes (Or.inl rfl)
            rw [eb]
            refine ⟨?_, ?_⟩
            · show (wf n b1 && (wf n b2 && true)) = true
              rw [w1, w2]; rfl
            · simp only [List.flatMap_cons, List.flatMap_nil, List.length_append, List.length_nil]
              omega
        · match ps, hz.1 with
          | [e, b1], _ =>
            obtain ⟨c1, h1, h⟩ := partsS_body (partsS_expr h)
            unfold partsS at h
            cases h
            obtain ⟨w1, l1⟩ := ih _ _ _ _ _ h1
            have eb : bodiesD (.tuple [.str "while", e, b1]) = [b1] := bodiesD_yes (Or.inr rfl)
            rw [eb]
            refine ⟨?_, ?_⟩
            · show (wf n b1 && true) = true
              rw [w1]; rfl
            · simp only [List.flatMap_cons, List.flatMap_nil, List.length_append, List.length_nil]
              omega
        · have e := partsS_same _ _ _ _ hn h
          have eb : bodiesD (.tuple (.str x :: ps)) = [] := if_neg hx
          rw [eb]
          exact ⟨rfl, by simp only [List.flatMap_nil, List.length_nil]; omega⟩
      · cases h
    · cases h
  · cases h
theorem body_flat : ∀ (n : Nat) (lp : Bool) (g : Kn) (d : PyData) (c c' : Nat), bodyD n lp g d c = some c' → wf n d = true ∧ c + (flat n d).length = c'
  | 0, _, _, _, _, _, h => by cases h
  | n + 1, lp, g, d, c, c', h => by
    replace h : bodyP (stmtP (bodyD n) lp) g d c = some c' := h
    unfold bodyP at h
    split at h
    · next ds =>
      have aux : ∀ (ds : List PyData) (g : Kn) (c c' : Nat), stmtsW (stmtP (bodyD n) lp) g ds c = some c' → (ds.all fun d => stOk d && (bodiesD d).all (wf n)) = true ∧ c + (ds.flatMap fun d => d :: (bodiesD d).flatMap (flat n)).length = c' := by
        intro ds
        induction ds with
        | nil =>
          intro g c c' h
          unfold stmtsW at h
          cases h
          exact ⟨rfl, rfl⟩
        | cons d r ihr =>
          intro g c c' h
          unfold stmtsW at h
          obtain ⟨c1, h1, h2⟩ := Option.bind_eq_some_iff.mp h
          obtain ⟨a1, a2, a3⟩ := stmt_flat (body_flat n) h1
          obtain ⟨b1, b2⟩ := ihr _ _ _ h2
          rw [List.all_cons, a1, a2, b1, List.flatMap_cons, List.length_append, List.length_cons]
          exact ⟨rfl, by omega⟩
      exact aux ds g c c' h
    · cases h
theorem kernel_good {d : PyData} (h : kernelD d = true) : ∃ p s ds, d = .tuple [p, s, .tuple ds] ∧ wf 10 (.tuple ds) = true ∧ (flat 10 (.tuple ds)).length ≤ 100 ∧ (flat 10 (.tuple ds)).take 1 = ds.take 1 := by
  unfold kernelD at h
  split at h
  · next p s b =>
    rw [Bool.and_eq_true] at h
    obtain ⟨ps, ss, rfl, rfl, _⟩ := headD_shape h.1
    have h2 : (bodyD 10 false (g0 ps ss) b 0).isSome = true := h.2
    obtain ⟨c', hc⟩ := Option.isSome_iff_exists.mp h2
    have bl := bodyD_le 10 _ _ _ _ _ hc
    obtain ⟨w, l⟩ := body_flat 10 _ _ _ _ _ hc
    obtain ⟨ds, rfl, _⟩ := wf_shape w
    refine ⟨_, _, ds, rfl, w, by have := bl.2 (by decide); omega, ?_⟩
    show (ds.flatMap fun d => d :: (bodiesD d).flatMap (flat 9)).take 1 = _
    cases ds with
    | nil => rfl
    | cons d r => rfl
  · cases h
def sp_law_case (K : PySem.W.Frag) : Sp := fun vs H Q _ => ∃ p q : Addr, vs = [.ref p] ∧ Strm q H p ∧ ∀ (r : V) H' (d : PyData) (b : Bool), But p H H' → Dp K H' r (.tuple [d, .bool b]) → fine d = true → d.depth ≤ 60 → kernelD d = b → Q r H'
theorem laidT {K : PySem.W.Frag} {H : Hp} {t : Addr} {xs : List V} {ds : List PyData} (nt : H t = none) (r : DpAll K H xs ds) : Dp K (L2.upd H t (.tup xs)) (.ref t) (.tuple ds) := .tup (SqT.of upd_same) (DpAll.same (same_new5 nt) r)
theorem partsS_np {bd : PyData → Nat → Option Nat} {g : Kn} {s : Str} {ss : List Str} {d : PyData} {ds : List PyData} {c : Nat} (h : s ≠ "body") : partsS bd g (s :: ss) (d :: ds) c = if partW (exprD g 10) g s d = true then partsS bd g ss ds c else none := by
  show (if s = "body" then bd d c else if partW (exprD g 10) g s d = true then some c else none).bind (partsS bd g ss ds) = _
  rw [if_neg h]
  split <;> rfl
theorem kernel_one {p s st : PyData} {ps ss : List PyData} (hp : p = .tuple ps) (hs : s = .tuple ss) (hh : headD p s = true) : kernelD (.tuple [p, s, .tuple [st]]) = (stmtP (bodyD 9) false (g0 ps ss) st 0).isSome := by
  subst hp hs
  show (headD _ _ && (bodyP (stmtP (bodyD 9) false) (g0 ps ss) (.tuple [st]) 0).isSome) = _
  rw [hh, Bool.true_and]
  show ((stmtP (bodyD 9) false (g0 ps ss) st 0).bind _).isSome = _
  cases stmtP (bodyD 9) false (g0 ps ss) st 0 <;> rfl
theorem some_if (b : Bool) (c : Nat) : (if b = true then some c else none).isSome = b := by cases b <;> rfl
theorem kernel_let {x : Str} {e : PyData} {b : Bool} (hx : nameS x.cps.toList = b) (hb : exprD (g0 [] []) 10 e = true) : kernelD (.tuple [.tuple [], .tuple [], .tuple [.tuple [.str "let", .str x, e]]]) = b := by
  rw [kernel_one rfl rfl (by decide +kernel), stmtP_some (ss := ["new", "expression"]) (by kernel_rfl), if_pos ⟨rfl, by decide, by decide +kernel⟩, partsS_np (by decide +kernel)]
  have e1 : partW (exprD (g0 [] []) 10) (g0 [] []) "new" (.str x) = b := by
    show (nameS x.cps.toList && true) = b
    rw [Bool.and_true, hx]
  rw [e1, partsS_np (by decide +kernel)]
  have e2 : partW (exprD (g0 [] []) 10) (g0 [] []) "expression" e = true := (if_pos rfl).trans hb
  rw [e2, if_pos rfl]
  exact some_if b 1
theorem kernel_let2 {e : PyData} {b : Bool} (hb : exprD (g0 [] []) 10 e = b) : kernelD (.tuple [.tuple [], .tuple [], .tuple [.tuple [.str "let", .str "x", e]]]) = b := by
  rw [kernel_one rfl rfl (by decide +kernel), stmtP_some (ss := ["new", "expression"]) (by kernel_rfl), if_pos ⟨rfl, by decide, by decide +kernel⟩, partsS_np (by decide +kernel)]
  have e1 : partW (exprD (g0 [] []) 10) (g0 [] []) "new" (.str "x") = true := by kernel_rfl
  rw [e1, if_pos rfl, partsS_np (by decide +kernel)]
  have e2 : partW (exprD (g0 [] []) 10) (g0 [] []) "expression" e = b := (if_pos rfl).trans hb
  rw [e2]
  exact some_if b 1
theorem expr_word (g : Kn) (m : Nat) (n : Int) : exprD g (m + 1) (.tuple [.str "word", .int n]) = (decide ((-2147483648 : Int) ≤ n) && decide (n ≤ 2147483647)) := by
  show partsOf exprTab _ _ = _
  rw [partsOf_some (ss := ["word"]) (by kernel_rfl)]
  show (true && (partW _ g "word" (.int n) && true)) = _
  rw [Bool.true_and, Bool.and_true]
  exact (if_neg (by decide +kernel)).trans (if_pos rfl)
theorem kernel_word (n : Int) : kernelD (.tuple [.tuple [], .tuple [], .tuple [.tuple [.str "let", .str "x", .tuple [.str "word", .int n]]]]) = (decide ((-2147483648 : Int) ≤ n) && decide (n ≤ 2147483647)) := kernel_let2 (expr_word _ _ n)
theorem kernel_size (n : Int) : kernelD (.tuple [.tuple [], .tuple [.tuple [.str "s", .int n]], .tuple []]) = (decide ((1 : Int) ≤ n) && decide (n ≤ 16)) := by
  show (headD (.tuple []) (.tuple [.tuple [.str "s", .int n]]) && true) = _
  rw [Bool.and_true]
  show (true && (true && (true && (((nameD (.str "s") && (decide ((1 : Int) ≤ n) && decide (n ≤ 16))) && true) && true)))) = _
  rw [show nameD (.str "s") = true by kernel_rfl]
  simp
def M2 (p D : Addr) : Addr → Prop := fun b => b = p ∨ b = D
def nmK (i : Nat) : Str := ("p" : Str) ++ Str.ofString (toString ((0 : Int) + (i : Int)))
def ShR (i : Nat) (d : PyData) : Prop := ∃ k : Int, d = .tuple [.str (nmK i), .int k] ∧ 1 ≤ k ∧ k ≤ 16
theorem shr_ok {i : Nat} {d : PyData} (hi : i < 4) (h : ShR i d) : sharedD d = true ∧ fine d = true ∧ d.depth ≤ 1 ∧ firstD d = nmK i := by
  obtain ⟨k, rfl, h1, h2⟩ := h
  have a : nameD (.str (nmK i)) = true ∧ fine (.str (nmK i)) = true := by
    have : i = 0 ∨ i = 1 ∨ i = 2 ∨ i = 3 := by omega
    rcases this with rfl | rfl | rfl | rfl <;> (simp only [fine]; decide +kernel)
  refine ⟨?_, ?_, ?_, rfl⟩
  · show (nameD (.str (nmK i)) && (decide (1 ≤ k) && decide (k ≤ 16))) = true
    rw [a.1, decide_eq_true h1, decide_eq_true h2]
    rfl
  · show (fine (.str (nmK i)) && (fine (.int k) && true)) = true
    rw [a.2]
    rfl
  · simp only [PyData.depth, PyData.depthAll]
    omega
theorem kernel_shared {m : Nat} {ds : List PyData} (hl : ds.length = m) (h2 : 2 ≤ m) (h4 : m ≤ 4) (hr : ∀ i d, ds[i]? = some d → ShR i d) :
    kernelD (.tuple [.tuple [], .tuple ds, .tuple []]) = decide (m ≤ 3) ∧ fine (.tuple [.tuple [], .tuple ds, .tuple []]) = true ∧ (PyData.tuple [.tuple [], .tuple ds, .tuple []]).depth ≤ 60 := by
  have ok := fun i d (hd : ds[i]? = some d) => shr_ok (by have := (List.getElem?_eq_some_iff.mp hd).1; omega) (hr i d hd)
  have a1 : ds.all sharedD = true := List.all_eq_true.mpr fun d hd => by
    obtain ⟨i, hi, e⟩ := List.getElem_of_mem hd
    exact (ok i d (by rw [← e]; exact List.getElem?_eq_getElem hi)).1
  have nm : ds.map firstD = (List.range m).map nmK := by
    refine List.ext_getElem? fun i => ?_
    rw [List.getElem?_map, List.getElem?_map]
    by_cases hi : i < ds.length
    · rw [List.getElem?_eq_getElem hi, List.getElem?_range (by omega)]
      exact congrArg some (ok i _ (List.getElem?_eq_getElem hi)).2.2.2
    · rw [List.getElem?_eq_none (by omega), List.getElem?_eq_none (by rw [List.length_range]; omega)]
      rfl
  have fa : ∀ (xs : List PyData), (∀ d ∈ xs, fine d = true) → fineAll xs = true := by
    intro xs
    induction xs with
    | nil => intro _; rfl
    | cons x r ih => intro h; show (fine x && fineAll r) = true; rw [h x (.head _), ih fun d m => h d (.tail _ m)]; rfl
  have da : ∀ (xs : List PyData), (∀ d ∈ xs, d.depth ≤ 1) → PyData.depthAll xs ≤ 1 := by
    intro xs
    induction xs with
    | nil => intro _; exact Nat.zero_le _
    | cons x r ih => intro h; have a := h x (.head _); have b := ih fun d m => h d (.tail _ m); simp only [PyData.depthAll]; omega
  have mem : ∀ d ∈ ds, fine d = true ∧ d.depth ≤ 1 := fun d hd => by
    obtain ⟨i, hi, e⟩ := List.getElem_of_mem hd
    have z := ok i d (by rw [← e]; exact List.getElem?_eq_getElem hi)
    exact ⟨z.2.1, z.2.2.1⟩
  refine ⟨?_, ?_, ?_⟩
  · show (headD (.tuple []) (.tuple ds) && true) = _
    rw [Bool.and_true]
    show (true && (decide (ds.length ≤ 3) && (true && (ds.all sharedD && decide (TX.nd (ds.map firstD) (ds.map firstD).length = (ds.map firstD).length))))) = _
    rw [a1, nm, hl]
    have : m = 2 ∨ m = 3 ∨ m = 4 := by omega
    rcases this with rfl | rfl | rfl <;> decide +kernel
  · show (true && (fineAll ds && (true && true))) = true
    rw [fa ds fun d hd => (mem d hd).1]
    rfl
  · have := da ds fun d hd => (mem d hd).2
    simp only [PyData.depth, PyData.depthAll]
    omega
def PaR (i : Nat) (d : PyData) : Prop := ∃ s : Str, d = .tuple [.str (nmK i), .str s] ∧ (s = "int" ∨ s = "buffer")
theorem par_ok {i : Nat} {d : PyData} (hi : i < 7) (h : PaR i d) : paramD d = true ∧ fine d = true ∧ d.depth ≤ 1 ∧ firstD d = nmK i := by
  obtain ⟨k, rfl, h1⟩ := h
  have a : nameD (.str (nmK i)) = true ∧ fine (.str (nmK i)) = true := by
    have : i = 0 ∨ i = 1 ∨ i = 2 ∨ i = 3 ∨ i = 4 ∨ i = 5 ∨ i = 6 := by omega
    rcases this with rfl | rfl | rfl | rfl | rfl | rfl | rfl <;> (simp only [fine]; decide +kernel)
  refine ⟨?_, ?_, ?_, rfl⟩
  · show (nameD (.str (nmK i)) && oneOf ["int", "buffer"] (.str k)) = true
    rw [a.1, Bool.true_and]
    rcases h1 with rfl | rfl <;> decide +kernel
  · show (fine (.str (nmK i)) && (fine (.str k) && true)) = true
    rw [a.2]
    rcases h1 with rfl | rfl <;> (simp only [fine]; decide +kernel)
  · simp only [PyData.depth, PyData.depthAll]
    omega
theorem kernel_params {m : Nat} {ds : List PyData} (hl : ds.length = m) (h2 : 5 ≤ m) (h4 : m ≤ 7) (hr : ∀ i d, ds[i]? = some d → PaR i d) :
    kernelD (.tuple [.tuple ds, .tuple [], .tuple []]) = decide (m ≤ 6) ∧ fine (.tuple [.tuple ds, .tuple [], .tuple []]) = true ∧ (PyData.tuple [.tuple ds, .tuple [], .tuple []]).depth ≤ 60 := by
  have ok := fun i d (hd : ds[i]? = some d) => par_ok (by have := (List.getElem?_eq_some_iff.mp hd).1; omega) (hr i d hd)
  have a1 : ds.all paramD = true := List.all_eq_true.mpr fun d hd => by
    obtain ⟨i, hi, e⟩ := List.getElem_of_mem hd
    exact (ok i d (by rw [← e]; exact List.getElem?_eq_getElem hi)).1
  have nm : ds.map firstD = (List.range m).map nmK := by
    refine List.ext_getElem? fun i => ?_
    rw [List.getElem?_map, List.getElem?_map]
    by_cases hi : i < ds.length
    · rw [List.getElem?_eq_getElem hi, List.getElem?_range (by omega)]
      exact congrArg some (ok i _ (List.getElem?_eq_getElem hi)).2.2.2
    · rw [List.getElem?_eq_none (by omega), List.getElem?_eq_none (by rw [List.length_range]; omega)]
      rfl
  have fa : ∀ (xs : List PyData), (∀ d ∈ xs, fine d = true) → fineAll xs = true := by
    intro xs
    induction xs with
    | nil => intro _; rfl
    | cons x r ih => intro h; show (fine x && fineAll r) = true; rw [h x (.head _), ih fun d m => h d (.tail _ m)]; rfl
  have da : ∀ (xs : List PyData), (∀ d ∈ xs, d.depth ≤ 1) → PyData.depthAll xs ≤ 1 := by
    intro xs
    induction xs with
    | nil => intro _; exact Nat.zero_le _
    | cons x r ih => intro h; have a := h x (.head _); have b := ih fun d m => h d (.tail _ m); simp only [PyData.depthAll]; omega
  have mem : ∀ d ∈ ds, fine d = true ∧ d.depth ≤ 1 := fun d hd => by
    obtain ⟨i, hi, e⟩ := List.getElem_of_mem hd
    have z := ok i d (by rw [← e]; exact List.getElem?_eq_getElem hi)
    exact ⟨z.2.1, z.2.2.1⟩
  refine ⟨?_, ?_, ?_⟩
  · show (headD (.tuple ds) (.tuple []) && true) = _
    rw [Bool.and_true]
    show (decide (ds.length ≤ 6) && (true && (ds.all paramD && (true && decide (TX.nd (namesOf ds []) (namesOf ds []).length = (namesOf ds []).length))))) = _
    rw [show namesOf ds [] = ds.map firstD by unfold namesOf; rw [List.append_nil], a1, nm, hl]
    have : m = 5 ∨ m = 6 ∨ m = 7 := by omega
    rcases this with rfl | rfl | rfl <;> decide +kernel
  · show (fineAll ds && (true && (true && true))) = true
    rw [fa ds fun d hd => (mem d hd).1]
    rfl
  · have := da ds fun d hd => (mem d hd).2
    simp only [PyData.depth, PyData.depthAll]
    omega
theorem rep_one {K : PySem.W.Frag} {H : Hp} {l : Addr} {v : V} {k : Int} {Q : VK} (h : SqT K H l [v]) (h0 : 0 ≤ k) (h1 : k ≤ 1000) (q : ∀ r H', Same H H' → SqT K H' r (List.replicate k.toNat v) → Q (.ref r) H') :
    rRep01 K (.ref l) (.int k) H Q ∨ rRepT K (.ref l) (.int k) H Q := by
  by_cases hk : k ≤ 1
  · refine .inl ⟨l, k, [v], rfl, rfl, h, by simp, ?_⟩
    have : k = 0 ∨ k = 1 := by omega
    rcases this with rfl | rfl
    · exact .inr ⟨rfl, fun p np => q p _ (same_new5 np) (SqT.of upd_same)⟩
    · exact .inl ⟨rfl, q l H (.refl H) h⟩
  · refine .inr ⟨l, k, [v], rfl, rfl, h, by simp, by omega, h1, (by show 1 ≤ 1000; decide), fun p np => ?_⟩
    have e : (List.replicate k.toNat [v]).flatten = List.replicate k.toNat v := by simp
    rw [e]
    exact q p _ (same_new5 np) (SqT.of upd_same)
theorem st_leaf {bd : Bool → Kn → PyData → Nat → Option Nat} {lp : Bool} {g : Kn} {x : Str} {c : Nat} (hl : look stmtTab x = some []) (hx : ¬ (x = "break" ∨ x = "continue")) : stmtP bd lp g (.tuple [.str x]) c = if c + 1 ≤ 100 then some (c + 1) else none := by
  rw [stmtP_some hl]
  by_cases h : c + 1 ≤ 100
  · rw [if_pos ⟨rfl, h, fun z => hx z.1⟩, if_pos h]
    rfl
  · rw [if_neg (fun z => h z.2.1), if_neg h]
theorem stmtsW_rep {st : Kn → PyData → Nat → Option Nat} {g : Kn} {d : PyData} (hst : ∀ c, st g d c = if c + 1 ≤ 100 then some (c + 1) else none) (hn : nextKn g d = g) : ∀ n c : Nat, c ≤ 100 → stmtsW st g (List.replicate n d) c = if c + n ≤ 100 then some (c + n) else none
  | 0, c, h => by rw [if_pos (by omega)]; rfl
  | n + 1, c, h => by
    show (st g d c).bind (stmtsW st (nextKn g d) (List.replicate n d)) = _
    rw [hst, hn]
    by_cases h1 : c + 1 ≤ 100
    · rw [if_pos h1]
      show stmtsW st g (List.replicate n d) (c + 1) = _
      rw [stmtsW_rep hst hn n (c + 1) h1, show c + 1 + n = c + (n + 1) by omega]
    · rw [if_neg h1, if_neg (by omega)]
      rfl
theorem partsS_bd {bd : PyData → Nat → Option Nat} {g : Kn} {ss : List Str} {d : PyData} {ds : List PyData} {c : Nat} : partsS bd g ("body" :: ss) (d :: ds) c = (bd d c).bind (partsS bd g ss ds) := by
  show (if ("body" : Str) = "body" then bd d c else _).bind _ = _
  rw [if_pos rfl]
def one1 : PyData := .tuple [.str "word", .int 1]
def barr (n : Nat) : PyData := .tuple (List.replicate n (.tuple [.str "barrier"]))
theorem body_barr (m : Nat) (lp : Bool) (g : Kn) (n c : Nat) (h : c + n ≤ 100) : bodyD (m + 1) lp g (barr n) c = some (c + n) := by
  show stmtsW (stmtP (bodyD m) lp) g (List.replicate n _) c = _
  rw [stmtsW_rep (fun c => st_leaf (by kernel_rfl) (by decide +kernel)) rfl n c (by omega), if_pos h]
theorem part_one (g : Kn) : partW (exprD g 10) g "expression" one1 = true := (if_pos rfl).trans ((expr_word g 9 1).trans (by decide))
def Outer (n : Nat) (d : PyData) : Prop := d = .tuple [.str "if", one1, barr n, .tuple []] ∨ d = .tuple [.str "if", one1, .tuple [], barr n] ∨ d = .tuple [.str "while", one1, barr n]
theorem st_outer {n : Nat} {d : PyData} (h : Outer n d) (hn : n ≤ 99) (g : Kn) : stmtP (bodyD 9) false g d 0 = some (1 + n) ∧ nextKn g d = g := by
  rcases h with rfl | rfl | rfl
  · refine ⟨?_, nextKn_no (by decide +kernel)⟩
    rw [stmtP_some (ss := ["expression", "body", "body"]) (by kernel_rfl), if_pos ⟨rfl, by decide, by decide +kernel⟩, partsS_np (by decide +kernel), part_one, if_pos rfl, partsS_bd, body_barr 8 _ _ _ _ (by omega)]
    rfl
  · refine ⟨?_, nextKn_no (by decide +kernel)⟩
    rw [stmtP_some (ss := ["expression", "body", "body"]) (by kernel_rfl), if_pos ⟨rfl, by decide, by decide +kernel⟩, partsS_np (by decide +kernel), part_one, if_pos rfl, partsS_bd]
    show partsS _ _ _ _ 1 = _
    rw [partsS_bd, body_barr 8 _ _ _ _ (by omega)]
    rfl
  · refine ⟨?_, nextKn_no (by decide +kernel)⟩
    rw [stmtP_some (ss := ["expression", "body"]) (by kernel_rfl), if_pos ⟨rfl, by decide, by decide +kernel⟩, partsS_np (by decide +kernel), part_one, if_pos rfl, partsS_bd, body_barr 8 _ _ _ _ (by omega)]
    rfl
def rets (n : Nat) : List PyData := List.replicate n (.tuple [.str "return"])
theorem kernel_many {n r : Nat} {d : PyData} (h : Outer n d) (hn : n ≤ 99) : kernelD (.tuple [.tuple [], .tuple [], .tuple (d :: rets r)]) = decide (1 + n + r ≤ 100) := by
  show (headD (.tuple []) (.tuple []) && (stmtsW (stmtP (bodyD 9) false) (g0 [] []) (d :: rets r) 0).isSome) = _
  rw [show headD (.tuple []) (.tuple []) = true by decide +kernel, Bool.true_and]
  obtain ⟨e1, e2⟩ := st_outer h hn (g0 [] [])
  show ((stmtP (bodyD 9) false (g0 [] []) d 0).bind (stmtsW _ (nextKn (g0 [] []) d) (rets r))).isSome = _
  rw [e1, e2]
  show (stmtsW _ (g0 [] []) (List.replicate r _) (1 + n)).isSome = _
  rw [stmtsW_rep (fun c => st_leaf (by kernel_rfl) (by decide +kernel)) rfl r (1 + n) (by omega)]
  by_cases z : 1 + n + r ≤ 100
  · rw [if_pos z, decide_eq_true z]; rfl
  · rw [if_neg z, decide_eq_false z]; rfl
mutual
def tupOnly : PyData → Bool
  | .list _ => false
  | .dict _ => false
  | .tuple xs => tupOnlyAll xs
  | _ => true
def tupOnlyAll : List PyData → Bool
  | [] => true
  | x :: r => tupOnly x && tupOnlyAll r
end
/-- data of tuples lies beside the stream -/
theorem Dp.beside {K : PySem.W.Frag} {H : Hp} {q p : Addr} (S : Strm q H p) {v : V} {d : PyData} (h : Dp K H v d) (ht : tupOnly d = true) : Dt (fun b => b = p) K H v d := by
  have st : ∀ {a : Addr} {xs : List V}, SqT K H a xs → SqTM (fun b => b = p) K H a xs := fun {a xs} h => by
    obtain ⟨_, _, _, _, e1, _⟩ := S
    rcases h with (h | ⟨o, h⟩) | h
    · exact .inl ⟨fun z => (by rw [z, e1] at h; cases h), .inl h⟩
    · exact .inl ⟨fun z => (by rw [z, e1] at h; cases h), .inr ⟨o, h⟩⟩
    · exact .inr h
  exact Dp.rec (motive_1 := fun v d _ => tupOnly d = true → Dt (fun b => b = p) K H v d) (motive_2 := fun vs ds _ => tupOnlyAll ds = true → DtAll (fun b => b = p) K H vs ds)
    (fun _ => .non) (fun b _ => .bl b) (fun i _ => .int i) (fun x _ => .str x) (fun _ _ _ z => by cases z) (fun h _ r z => .tup (st h) (r z)) (fun _ => .nil)
    (fun _ _ h r z => by
      have z2 := (Bool.and_eq_true_iff.mp z)
      exact .cons (h z2.1) (r z2.2)) h ht
theorem Dp.over {K : PySem.W.Frag} {H H' : Hp} {q p : Addr} (S : Strm q H p) (e : But p H H') {v : V} {d : PyData} (h : Dp K H v d) (ht : tupOnly d = true) : Dp K H' v d :=
  ((Dp.beside S h ht).off (fun b o nb hb => e b o nb hb)).dp
theorem tupOnly_rep (d : PyData) (h : tupOnly d = true) : ∀ n, tupOnlyAll (List.replicate n d) = true
  | 0 => rfl
  | n + 1 => by show (tupOnly d && tupOnlyAll (List.replicate n d)) = true; rw [h, tupOnly_rep d h n]; rfl
theorem outer_only {n : Nat} {d : PyData} (h : Outer n d) : tupOnly d = true := by
  have hb : tupOnly (barr n) = true := tupOnly_rep _ rfl n
  rcases h with rfl | rfl | rfl
  · show (true && (true && (tupOnly (barr n) && (true && true)))) = true; rw [hb]; rfl
  · show (true && (true && (true && (tupOnly (barr n) && true)))) = true; rw [hb]; rfl
  · show (true && (true && (tupOnly (barr n) && true))) = true; rw [hb]; rfl
theorem fineAll_rep (d : PyData) (h : fine d = true) : ∀ n, fineAll (List.replicate n d) = true
  | 0 => rfl
  | n + 1 => by show (fine d && fineAll (List.replicate n d)) = true; rw [h, fineAll_rep d h n]; rfl
theorem depthAll_rep (d : PyData) (h : d.depth ≤ 1) : ∀ n, PyData.depthAll (List.replicate n d) ≤ 1
  | 0 => Nat.zero_le _
  | n + 1 => by
    have e : PyData.depthAll (List.replicate (n + 1) d) = max d.depth (PyData.depthAll (List.replicate n d)) := by rw [List.replicate_succ]; simp only [PyData.depthAll]
    have := depthAll_rep d h n
    omega
theorem many_ok {n r : Nat} {d : PyData} (h : Outer n d) : fine (.tuple [.tuple [], .tuple [], .tuple (d :: rets r)]) = true ∧ (PyData.tuple [.tuple [], .tuple [], .tuple (d :: rets r)]).depth ≤ 60 := by
  have fb : fine (barr n) = true := fineAll_rep _ (by simp only [fine, fineAll]; decide +kernel) n
  have f1 : fine one1 = true := by unfold one1; simp only [fine, fineAll]; decide +kernel
  have fi : fine (.str "if") = true := by simp only [fine]; decide +kernel
  have fw : fine (.str "while") = true := by simp only [fine]; decide +kernel
  have fr : fineAll (rets r) = true := fineAll_rep _ (by simp only [fine, fineAll]; decide +kernel) r
  have db : (barr n).depth ≤ 2 := by
    have := depthAll_rep (.tuple [.str "barrier"]) (by simp only [PyData.depth, PyData.depthAll]; decide) n
    have e : (barr n).depth = PyData.depthAll (List.replicate n (.tuple [.str "barrier"])) + 1 := by unfold barr; simp only [PyData.depth]
    omega
  have dr : PyData.depthAll (rets r) ≤ 1 := depthAll_rep _ (by simp only [PyData.depth, PyData.depthAll]; decide) r
  have d1 : one1.depth = 1 := by unfold one1; simp only [PyData.depth, PyData.depthAll]; decide
  have fd : fine d = true ∧ d.depth ≤ 3 := by
    rcases h with rfl | rfl | rfl
    · simp only [fine, fineAll, PyData.depth, PyData.depthAll] at *
      simp only [fi, f1, fb]
      exact ⟨rfl, by omega⟩
    · simp only [fine, fineAll, PyData.depth, PyData.depthAll] at *
      simp only [fi, f1, fb]
      exact ⟨rfl, by omega⟩
    · simp only [fine, fineAll, PyData.depth, PyData.depthAll] at *
      simp only [fw, f1, fb]
      exact ⟨rfl, by omega⟩
  refine ⟨?_, ?_⟩
  · show (true && (true && ((fine d && fineAll (rets r)) && true))) = true
    rw [fd.1, fr]
    rfl
  · have := fd.2
    simp only [PyData.depth, PyData.depthAll]
    omega
/-! ### a bag of data beside the stream -/
def lstOf (H : Hp) (a : Addr) : List V := match H a with
  | some (.lst xs) => xs
  | _ => []
/-- ps: data that stands; ls: lists of data that stand, by their addresses -/
structure St (K : PySem.W.Frag) (q p : Addr) (M : Addr → Prop) (H0 H : Hp) (ps : List (V × PyData)) (ls : List (Addr × List PyData)) : Prop where
  off : Off M H0 H
  dom : ∀ b, M b → H b ≠ none
  mp : M p
  str : Strm q H p
  bag : ∀ x ∈ ps, Dt M K H x.1 x.2
  lst : ∀ x ∈ ls, ¬ M x.1 ∧ ∃ xs, H x.1 = some (.lst xs) ∧ DtAll M K H xs x.2
section
variable {K : PySem.W.Frag} {q p : Addr} {M : Addr → Prop} {H0 H H' : Hp} {ps : List (V × PyData)} {ls : List (Addr × List PyData)}
theorem St.get (S : St K q p M H0 H ps ls) {v : V} {d : PyData} (h : (v, d) ∈ ps) : Dt M K H v d := S.bag (v, d) h
theorem St.getL (S : St K q p M H0 H ps ls) {a : Addr} {ds : List PyData} (h : (a, ds) ∈ ls) : H a = some (.lst (lstOf H a)) ∧ DtAll M K H (lstOf H a) ds := by
  obtain ⟨_, xs, e, r⟩ := S.lst (a, ds) h
  have e1 : lstOf H a = xs := by
    show (match H a with | some (.lst xs) => xs | _ => []) = xs
    rw [show H a = some (.lst xs) from e]
  rw [e1]
  exact ⟨e, r⟩
theorem St.notM (S : St K q p M H0 H ps ls) {a : Addr} {ds : List PyData} (h : (a, ds) ∈ ls) : ¬ M a := (S.lst (a, ds) h).1
theorem St.list (S : St K q p M H0 H ps ls) {a : Addr} {ds : List PyData} (h : (a, ds) ∈ ls) : Dt M K H (.ref a) (.list ds) := .laidL (S.notM h) (S.getL h).1 (S.getL h).2
theorem St.same (S : St K q p M H0 H ps ls) (s : Same H H') : St K q p M H0 H' ps ls := by
  refine ⟨S.off.trans (.of s), fun b m z => ?_, S.mp, S.str.same s, fun x hx => (S.bag x hx).off (.of s), fun x hx => ?_⟩
  · cases e : H b with
    | none => exact S.dom b m e
    | some o => rw [s _ _ e] at z; cases z
  · obtain ⟨n, xs, e, r⟩ := S.lst x hx
    exact ⟨n, xs, s _ _ e, r.off (.of s)⟩
theorem St.new (S : St K q p M H0 H ps ls) {t : Addr} (n : H t = none) : ¬ M t := fun m => S.dom t m n
theorem St.tup' (S : St K q p M H0 H ps ls) {t : Addr} {xs : List V} {ds : List PyData} (n : H t = none) (e : L2.upd H t (.tup xs) = H') (h : DtAll M K H xs ds) : St K q p M H0 H' ((.ref t, .tuple ds) :: ps) ls := by
  subst e
  have s : Same H (L2.upd H t (.tup xs)) := same_new5 n
  have S' := S.same s
  refine ⟨S'.off, S'.dom, S'.mp, S'.str, fun x hx => ?_, S'.lst⟩
  cases hx with
  | head => exact .laid (S.new n) upd_same (h.off (.of s))
  | tail _ hx => exact S'.bag x hx
theorem St.lst' (S : St K q p M H0 H ps ls) {t : Addr} {xs : List V} {ds : List PyData} (n : H t = none) (e : L2.upd H t (.lst xs) = H') (h : DtAll M K H xs ds) : St K q p M H0 H' ps ((t, ds) :: ls) := by
  subst e
  have s : Same H (L2.upd H t (.lst xs)) := same_new5 n
  have S' := S.same s
  refine ⟨S'.off, S'.dom, S'.mp, S'.str, S'.bag, fun x hx => ?_⟩
  cases hx with
  | head => exact ⟨S.new n, xs, upd_same, h.off (.of s)⟩
  | tail _ hx => exact S'.lst x hx
theorem St.draw (S : St K q p M H0 H ps ls) (b : But p H H') (s : Strm q H' p) : St K q p M H0 H' ps ls := by
  have o : Off M H H' := fun c u n h => b c u (fun e => n (e ▸ S.mp)) h
  refine ⟨S.off.trans o, fun c m z => ?_, S.mp, s, fun x hx => (S.bag x hx).off o, fun x hx => ?_⟩
  · by_cases e : c = p
    · obtain ⟨_, _, _, _, e1, _⟩ := s
      rw [e, e1] at z
      cases z
    · cases e2 : H c with
      | none => exact S.dom c m e2
      | some o => rw [b c o e e2] at z; cases z
  · obtain ⟨n, xs, e, r⟩ := S.lst x hx
    exact ⟨n, xs, o _ _ n e, r.off o⟩
theorem St.begin (S : Strm q H p) : St K q p (fun b => b = p) H H [] [] := by
  refine ⟨.refl, fun b m z => ?_, rfl, S, fun x hx => ?_, fun x hx => ?_⟩
  · obtain ⟨_, _, _, _, e1, _⟩ := S
    rw [show b = p from m, e1] at z
    cases z
  · cases hx
  · cases hx
theorem St.put (S : St K q p M H0 H ps ls) {v : V} {d : PyData} (h : Dt M K H v d) : St K q p M H0 H ((v, d) :: ps) ls :=
  ⟨S.off, S.dom, S.mp, S.str, fun x hx => (List.mem_cons.mp hx).elim (fun e => e ▸ h) (S.bag x), S.lst⟩
theorem St.sub (S : St K q p M H0 H ps ls) {qs : List (V × PyData)} {ms : List (Addr × List PyData)} (h : ∀ x ∈ qs, x ∈ ps) (g : ∀ x ∈ ms, x ∈ ls) : St K q p M H0 H qs ms := ⟨S.off, S.dom, S.mp, S.str, fun x hx => S.bag x (h x hx), fun x hx => S.lst x (g x hx)⟩
theorem St.only (S : St K q p M H0 H ps ls) {x : V × PyData} (h : x ∈ ps) : St K q p M H0 H [x] [] := S.sub (fun y hy => by
  rw [List.mem_singleton] at hy
  rw [hy]
  exact h) (fun _ h => by cases h)
theorem St.but (S : St K q p (fun b => b = p) H0 H ps ls) : But p H0 H := fun b o n h => S.off b o n h
theorem St.catSize (S : St K q p M H0 H ps ls) {a b : Addr} {ds es : List PyData} (ha : (a, ds) ∈ ls) (hb : (b, es) ∈ ls) (h : ds.length + es.length ≤ 1000) : (lstOf H a).length + (lstOf H b).length ≤ sizeLine := by
  rw [(S.getL ha).2.len, (S.getL hb).2.len]
  exact Nat.le_trans h (by rw [sizeLine_eq]; decide)
/-- one of a list's items, by its place -/
theorem DtAll.pick {xs : List V} {ds : List PyData} (h : DtAll M K H xs ds) {u : Int} (h0 : 0 ≤ u) (h1 : u < ds.length) :
    ∃ v d, atI xs u = some v ∧ ds[u.toNat]? = some d ∧ d ∈ ds ∧ Dt M K H v d := by
  obtain ⟨n, rfl⟩ : ∃ n : Nat, u = (n : Int) := ⟨u.toNat, by omega⟩
  have hn : n < ds.length := by omega
  obtain ⟨v, e1, dv⟩ := DtAll.at h (List.getElem?_eq_getElem hn)
  exact ⟨v, ds[n], atI_nat e1, List.getElem?_eq_getElem hn, List.getElem_mem hn, dv⟩
end

/-! #### nested bodies -/
def NB (k : Nat) (d : PyData) : Prop := (∀ (m : Nat) (lp : Bool) (g : Kn) (c : Nat), c + k ≤ 99 → bodyD m lp g d c = if k + 1 ≤ m then some (c + k + 1) else none) ∧ fine d = true ∧ d.depth ≤ 2 * k + 2
def one0 : PyData := .tuple [.str "word", .int 0]
theorem part_zero (g : Kn) : partW (exprD g 10) g "expression" one0 = true := (if_pos rfl).trans ((expr_word g 9 0).trans (by decide))
theorem nb_start : NB 0 (.tuple [.tuple [.str "barrier"]]) := by
  refine ⟨fun m lp g c h => ?_, by simp only [fine, fineAll]; decide +kernel, by simp only [PyData.depth, PyData.depthAll]; omega⟩
  cases m with
  | zero => rfl
  | succ m =>
    rw [if_pos (by omega)]
    exact (body_barr m lp g 1 c (by omega))
theorem body_one (m : Nat) (lp : Bool) (g : Kn) (st : PyData) (c : Nat) : bodyD (m + 1) lp g (.tuple [st]) c = stmtP (bodyD m) lp g st c := by
  show (stmtP (bodyD m) lp g st c).bind _ = _
  cases stmtP (bodyD m) lp g st c <;> rfl
theorem body_nil (m : Nat) (lp : Bool) (g : Kn) (c : Nat) : bodyD m lp g (.tuple []) c = if 1 ≤ m then some c else none := by
  cases m with
  | zero => rfl
  | succ m => rw [if_pos (by omega)]; rfl
theorem nb_step {k : Nat} {b d : PyData} (h : NB k b) (hd : d = .tuple [.str "if", one0, b, .tuple []] ∨ d = .tuple [.str "if", one0, .tuple [], b] ∨ d = .tuple [.str "while", one0, b]) : NB (k + 1) (.tuple [d]) := by
  obtain ⟨h1, h2, h3⟩ := h
  have f1 : fine one0 = true := by unfold one0; simp only [fine, fineAll]; decide +kernel
  have fi : fine (.str "if") = true := by simp only [fine]; decide +kernel
  have fw : fine (.str "while") = true := by simp only [fine]; decide +kernel
  have d1 : one0.depth = 1 := by unfold one0; simp only [PyData.depth, PyData.depthAll]; decide
  refine ⟨fun m lp g c hc => ?_, ?_, ?_⟩
  · cases m with
    | zero => rfl
    | succ m =>
      rw [body_one]
      have e : ∀ lp' g', bodyD m lp' g' b (c + 1) = if k + 1 ≤ m then some (c + 1 + k + 1) else none := fun lp' g' => h1 m lp' g' (c + 1) (by omega)
      rcases hd with rfl | rfl | rfl
      · rw [stmtP_some (ss := ["expression", "body", "body"]) (by kernel_rfl), if_pos ⟨rfl, by omega, fun z => absurd z.1 (by decide +kernel)⟩, partsS_np (by decide +kernel), part_zero, if_pos rfl, partsS_bd, e]
        by_cases z : k + 1 ≤ m
        · rw [if_pos z, if_pos (by omega)]
          show partsS _ _ _ _ _ = _
          rw [partsS_bd, body_nil, if_pos (by omega)]
          exact congrArg some (by omega)
        · rw [if_neg z, if_neg (by omega)]; rfl
      · rw [stmtP_some (ss := ["expression", "body", "body"]) (by kernel_rfl), if_pos ⟨rfl, by omega, fun z => absurd z.1 (by decide +kernel)⟩, partsS_np (by decide +kernel), part_zero, if_pos rfl, partsS_bd, body_nil]
        by_cases z : 1 ≤ m
        · rw [if_pos z]
          show partsS _ _ _ _ _ = _
          rw [partsS_bd, e]
          by_cases z : k + 1 ≤ m
          · rw [if_pos z, if_pos (by omega)]
            exact congrArg some (by omega)
          · rw [if_neg z, if_neg (by omega)]; rfl
        · rw [if_neg z, if_neg (by omega)]; rfl
      · rw [stmtP_some (ss := ["expression", "body"]) (by kernel_rfl), if_pos ⟨rfl, by omega, fun z => absurd z.1 (by decide +kernel)⟩, partsS_np (by decide +kernel), part_zero, if_pos rfl, partsS_bd, e]
        by_cases z : k + 1 ≤ m
        · rw [if_pos z, if_pos (by omega)]
          exact congrArg some (by omega)
        · rw [if_neg z, if_neg (by omega)]; rfl
  · rcases hd with rfl | rfl | rfl <;> (simp only [fine, fineAll] at *; simp [f1, fi, fw, h2])
  · rcases hd with rfl | rfl | rfl <;> (simp only [PyData.depth, PyData.depthAll] at *; omega)
theorem kernel_nb {k : Nat} {b : PyData} (h : NB k b) (hk : k ≤ 20) : kernelD (.tuple [.tuple [], .tuple [], b]) = decide (k + 1 ≤ 10) ∧ fine (.tuple [.tuple [], .tuple [], b]) = true ∧ (PyData.tuple [.tuple [], .tuple [], b]).depth ≤ 60 := by
  obtain ⟨h1, h2, h3⟩ := h
  refine ⟨?_, ?_, ?_⟩
  · have e : kernelD (.tuple [.tuple [], .tuple [], b]) = (bodyD 10 false (g0 [] []) b 0).isSome := by
      show (headD (.tuple []) (.tuple []) && _) = _
      rw [show headD (.tuple []) (.tuple []) = true by decide +kernel, Bool.true_and]
      rfl
    rw [e, h1 10 _ _ 0 (by omega)]
    by_cases z : k + 1 ≤ 10
    · rw [if_pos z, decide_eq_true z]; rfl
    · rw [if_neg z, decide_eq_false z]; rfl
  · show (true && (true && (fine b && true))) = true
    rw [h2]; rfl
  · simp only [PyData.depth, PyData.depthAll]
    omega
/-! #### nested expressions -/
def ga : Kn := g0 [.tuple [.str "a", .str "buffer"]] []
def EB (k : Nat) (d : PyData) : Prop := (∀ m : Nat, exprD ga m d = decide (k + 1 ≤ m)) ∧ fine d = true ∧ d.depth ≤ k + 1
theorem part_ex (g : Kn) (m : Nat) (d : PyData) : partW (exprD g m) g "expression" d = exprD g m d := if_pos rfl
theorem expr_one (g : Kn) (m : Nat) : exprD g m one1 = decide (1 ≤ m) := by
  cases m with
  | zero => rfl
  | succ m => rw [show one1 = .tuple [.str "word", .int 1] from rfl, expr_word]; simp
theorem expr_zero (g : Kn) (m : Nat) : exprD g m one0 = decide (1 ≤ m) := by
  cases m with
  | zero => rfl
  | succ m => rw [show one0 = .tuple [.str "word", .int 0] from rfl, expr_word]; simp
theorem eb_start : EB 0 (.tuple [.str "special", .str "tid"]) := by
  refine ⟨fun m => ?_, by simp only [fine, fineAll]; decide +kernel, by simp only [PyData.depth, PyData.depthAll]; omega⟩
  cases m with
  | zero => rfl
  | succ m =>
    rw [decide_eq_true (by omega)]
    show partsOf exprTab _ _ = _
    rw [partsOf_some (ss := ["special"]) (by kernel_rfl)]
    show (true && (partW _ ga "special" (.str "tid") && true)) = _
    rw [show partW (exprD ga m) ga "special" (.str "tid") = true by kernel_rfl]
    rfl
def forms (v : PyData) : List PyData := [.tuple [.str "unary", .str "neg", v], .tuple [.str "binary", .str "add", one1, v], .tuple [.str "pick", v, one1, one1], .tuple [.str "pick", one1, v, one1],
  .tuple [.str "load", .str "a", v], .tuple [.str "binary", .str "sub", v, one1], .tuple [.str "pick", one1, one1, v]]
theorem eb_step {k : Nat} {v d : PyData} (h : EB k v) (hd : d ∈ forms v) : EB (k + 1) d := by
  obtain ⟨h1, h2, h3⟩ := h
  have f1 : fine one1 = true := by unfold one1; simp only [fine, fineAll]; decide +kernel
  have d1 : one1.depth = 1 := by unfold one1; simp only [PyData.depth, PyData.depthAll]; decide
  have fs : ∀ x ∈ (["unary", "neg", "binary", "add", "pick", "load", "a", "sub"] : List Str), fine (.str x) = true := by intro x hx; simp only [fine]; revert x; decide +kernel
  have g1 := fs "unary" (by decide)
  have g2 := fs "neg" (by decide)
  have g3 := fs "binary" (by decide)
  have g4 := fs "add" (by decide)
  have g5 := fs "pick" (by decide)
  have g6 := fs "load" (by decide)
  have g7 := fs "a" (by decide)
  have g8 := fs "sub" (by decide)
  have pu : ∀ m, partW (exprD ga m) ga "unary" (.str "neg") = true := fun m => by kernel_rfl
  have pa : ∀ m, partW (exprD ga m) ga "binary" (.str "add") = true := fun m => by kernel_rfl
  have ps : ∀ m, partW (exprD ga m) ga "binary" (.str "sub") = true := fun m => by kernel_rfl
  have pl : ∀ m, partW (exprD ga m) ga "array" (.str "a") = true := fun m => by kernel_rfl
  have key : ∀ m : Nat, (decide (1 ≤ m) && decide (k + 1 ≤ m)) = decide (k + 1 + 1 ≤ m + 1) ∧ (decide (k + 1 ≤ m) && decide (1 ≤ m)) = decide (k + 1 + 1 ≤ m + 1) ∧ decide (k + 1 ≤ m) = decide (k + 1 + 1 ≤ m + 1) := fun m => by
    refine ⟨?_, ?_, ?_⟩ <;> (rw [Bool.eq_iff_iff]; simp only [Bool.and_eq_true, decide_eq_true_eq]; omega)
  refine ⟨fun m => ?_, ?_, ?_⟩
  · cases m with
    | zero =>
      rw [decide_eq_false (by omega)]
      rfl
    | succ m =>
      obtain ⟨k1, k2, k3⟩ := key m
      have el : ∀ {x : Str} {ps : List PyData} {ss : List Str}, look exprTab x = some ss → exprD ga (m + 1) (.tuple (.str x :: ps)) = (decide (ps.length = ss.length) && partsW (exprD ga m) ga ss ps) := fun h => partsOf_some h
      have pw : ∀ (s : Str) (ss : List Str) (d : PyData) (ds : List PyData), partsW (exprD ga m) ga (s :: ss) (d :: ds) = (partW (exprD ga m) ga s d && partsW (exprD ga m) ga ss ds) := fun _ _ _ _ => rfl
      have p0 : partsW (exprD ga m) ga [] [] = true := rfl
      simp only [forms, List.mem_cons, List.not_mem_nil, or_false] at hd
      rcases hd with rfl | rfl | rfl | rfl | rfl | rfl | rfl
      · rw [el (ss := ["unary", "expression"]) (by kernel_rfl), pw, pw, p0, pu, part_ex, h1]; rw [Bool.eq_iff_iff]; simp only [Bool.and_eq_true, decide_eq_true_eq, List.length_cons, List.length_nil, eq_self, true_and, and_true]; omega
      · rw [el (ss := ["binary", "expression", "expression"]) (by kernel_rfl), pw, pw, pw, p0, pa, part_ex, part_ex, h1, expr_one]; rw [Bool.eq_iff_iff]; simp only [Bool.and_eq_true, decide_eq_true_eq, List.length_cons, List.length_nil, eq_self, true_and, and_true]; omega
      · rw [el (ss := ["expression", "expression", "expression"]) (by kernel_rfl), pw, pw, pw, p0, part_ex, part_ex, h1, expr_one]; rw [Bool.eq_iff_iff]; simp only [Bool.and_eq_true, decide_eq_true_eq, List.length_cons, List.length_nil, eq_self, true_and, and_true]; omega
      · rw [el (ss := ["expression", "expression", "expression"]) (by kernel_rfl), pw, pw, pw, p0, part_ex, part_ex, h1, expr_one]; rw [Bool.eq_iff_iff]; simp only [Bool.and_eq_true, decide_eq_true_eq, List.length_cons, List.length_nil, eq_self, true_and, and_true]; omega
      · rw [el (ss := ["array", "expression"]) (by kernel_rfl), pw, pw, p0, pl, part_ex, h1]; rw [Bool.eq_iff_iff]; simp only [Bool.and_eq_true, decide_eq_true_eq, List.length_cons, List.length_nil, eq_self, true_and, and_true]; omega
      · rw [el (ss := ["binary", "expression", "expression"]) (by kernel_rfl), pw, pw, pw, p0, ps, part_ex, part_ex, h1, expr_one]; rw [Bool.eq_iff_iff]; simp only [Bool.and_eq_true, decide_eq_true_eq, List.length_cons, List.length_nil, eq_self, true_and, and_true]; omega
      · rw [el (ss := ["expression", "expression", "expression"]) (by kernel_rfl), pw, pw, pw, p0, part_ex, part_ex, h1, expr_one]; rw [Bool.eq_iff_iff]; simp only [Bool.and_eq_true, decide_eq_true_eq, List.length_cons, List.length_nil, eq_self, true_and, and_true]; omega
  · simp only [forms, List.mem_cons, List.not_mem_nil, or_false] at hd
    rcases hd with rfl | rfl | rfl | rfl | rfl | rfl | rfl <;> (rw [fine, fineAll]; simp only [fineAll, g1, g2, g3, g4, g5, g6, g7, g8, f1, h2, Bool.and_self])
  · simp only [forms, List.mem_cons, List.not_mem_nil, or_false] at hd
    rcases hd with rfl | rfl | rfl | rfl | rfl | rfl | rfl <;> (simp only [PyData.depth, PyData.depthAll]; omega)
def stForms (v : PyData) : List PyData := [.tuple [.str "let", .str "x", v], .tuple [.str "put", .str "a", one0, v], .tuple [.str "if", v, .tuple [], .tuple []], .tuple [.str "put", .str "a", v, one0],
  .tuple [.str "atomic", .str "add", .str "a", v, one0], .tuple [.str "atomic", .str "max", .str "a", one0, v], .tuple [.str "while", v, .tuple []], .tuple [.str "collect", .str "x", .str "min", v]]
def kerA (st : PyData) : PyData := .tuple [.tuple [.tuple [.str "a", .str "buffer"]], .tuple [], .tuple [st]]
theorem kernel_eb {k : Nat} {v st : PyData} (h : EB k v) (hk : k ≤ 20) (hs : st ∈ stForms v) : kernelD (kerA st) = decide (k + 1 ≤ 10) ∧ fine (kerA st) = true ∧ (kerA st).depth ≤ 60 := by
  obtain ⟨h1, h2, h3⟩ := h
  have f1 : fine one0 = true := by unfold one0; simp only [fine, fineAll]; decide +kernel
  have d1 : one0.depth = 1 := by unfold one0; simp only [PyData.depth, PyData.depthAll]; decide
  have ff : ∀ d, fine (kerA d) = fine d := fun d => by
    show ((((fine (.str "a") && (fine (.str "buffer") && true)) && true)) && (true && ((fine d && true) && true))) = _
    rw [show fine (.str "a") = true by simp only [fine]; decide +kernel, show fine (.str "buffer") = true by simp only [fine]; decide +kernel]
    simp
  have fs : ∀ x ∈ (["let", "x", "put", "a", "if", "atomic", "add", "max", "while", "collect", "min"] : List Str), fine (.str x) = true := by intro x hx; simp only [fine]; revert x; decide +kernel
  have g1 := fs "let" (by decide)
  have g2 := fs "x" (by decide)
  have g3 := fs "put" (by decide)
  have g4 := fs "a" (by decide)
  have g5 := fs "if" (by decide)
  have g6 := fs "atomic" (by decide)
  have g7 := fs "add" (by decide)
  have g8 := fs "max" (by decide)
  have g9 := fs "while" (by decide)
  have g10 := fs "collect" (by decide)
  have g11 := fs "min" (by decide)
  have fn : fine (.tuple []) = true := rfl
  refine ⟨?_, ?_, ?_⟩
  · unfold kerA
    rw [kernel_one rfl rfl (by decide +kernel)]
    show (stmtP (bodyD 9) false ga st 0).isSome = _
    have pn : partW (exprD ga 10) ga "new" (.str "x") = true := by kernel_rfl
    have par : partW (exprD ga 10) ga "array" (.str "a") = true := by kernel_rfl
    have pf1 : partW (exprD ga 10) ga "folding" (.str "add") = true := by kernel_rfl
    have pf2 : partW (exprD ga 10) ga "folding" (.str "max") = true := by kernel_rfl
    have pf3 : partW (exprD ga 10) ga "folding" (.str "min") = true := by kernel_rfl
    have pz : partW (exprD ga 10) ga "expression" one0 = true := part_zero ga
    have pv : partW (exprD ga 10) ga "expression" v = decide (k + 1 ≤ 10) := (part_ex _ _ _).trans (h1 10)
    have nb : ∀ lp c, bodyD 9 lp ga (.tuple []) c = some c := fun lp c => rfl
    simp only [stForms, List.mem_cons, List.not_mem_nil, or_false] at hs
    generalize decide (k + 1 ≤ 10) = b at pv ⊢
    rcases hs with rfl | rfl | rfl | rfl | rfl | rfl | rfl | rfl
    · rw [stmtP_some (ss := ["new", "expression"]) (by kernel_rfl), if_pos ⟨rfl, by decide, by decide +kernel⟩, partsS_np (by decide +kernel), pn, if_pos rfl, partsS_np (by decide +kernel), pv]
      cases b <;> rfl
    · rw [stmtP_some (ss := ["array", "expression", "expression"]) (by kernel_rfl), if_pos ⟨rfl, by decide, by decide +kernel⟩, partsS_np (by decide +kernel), par, if_pos rfl, partsS_np (by decide +kernel), pz, if_pos rfl, partsS_np (by decide +kernel), pv]
      cases b <;> rfl
    · rw [stmtP_some (ss := ["expression", "body", "body"]) (by kernel_rfl), if_pos ⟨rfl, by decide, by decide +kernel⟩, partsS_np (by decide +kernel), pv]
      cases b with
      | false => rfl
      | true =>
        rw [if_pos rfl, partsS_bd, nb]
        show (partsS _ _ _ _ 1).isSome = _
        rw [partsS_bd, nb]
        rfl
    · rw [stmtP_some (ss := ["array", "expression", "expression"]) (by kernel_rfl), if_pos ⟨rfl, by decide, by decide +kernel⟩, partsS_np (by decide +kernel), par, if_pos rfl, partsS_np (by decide +kernel), pv]
      cases b with
      | false => rfl
      | true => rw [if_pos rfl, partsS_np (by decide +kernel), pz]; rfl
    · rw [stmtP_some (ss := ["folding", "array", "expression", "expression"]) (by kernel_rfl), if_pos ⟨rfl, by decide, by decide +kernel⟩, partsS_np (by decide +kernel), pf1, if_pos rfl, partsS_np (by decide +kernel), par, if_pos rfl, partsS_np (by decide +kernel), pv]
      cases b with
      | false => rfl
      | true => rw [if_pos rfl, partsS_np (by decide +kernel), pz]; rfl
    · rw [stmtP_some (ss := ["folding", "array", "expression", "expression"]) (by kernel_rfl), if_pos ⟨rfl, by decide, by decide +kernel⟩, partsS_np (by decide +kernel), pf2, if_pos rfl, partsS_np (by decide +kernel), par, if_pos rfl, partsS_np (by decide +kernel), pz, if_pos rfl, partsS_np (by decide +kernel), pv]
      cases b <;> rfl
    · rw [stmtP_some (ss := ["expression", "body"]) (by kernel_rfl), if_pos ⟨rfl, by decide, by decide +kernel⟩, partsS_np (by decide +kernel), pv]
      cases b with
      | false => rfl
      | true => rw [if_pos rfl, partsS_bd, nb]; rfl
    · rw [stmtP_some (ss := ["new", "folding", "expression"]) (by kernel_rfl), if_pos ⟨rfl, by decide, by decide +kernel⟩, partsS_np (by decide +kernel), pn, if_pos rfl, partsS_np (by decide +kernel), pf3, if_pos rfl, partsS_np (by decide +kernel), pv]
      cases b <;> rfl
  · rw [ff]
    simp only [stForms, List.mem_cons, List.not_mem_nil, or_false] at hs
    rcases hs with rfl | rfl | rfl | rfl | rfl | rfl | rfl | rfl <;> (rw [fine, fineAll]; simp only [fineAll, g1, g2, g3, g4, g5, g6, g7, g8, g9, g10, g11, f1, fn, h2, Bool.and_self])
  · simp only [stForms, List.mem_cons, List.not_mem_nil, or_false] at hs
    unfold kerA
    rcases hs with rfl | rfl | rfl | rfl | rfl | rfl | rfl | rfl <;> (simp only [PyData.depth, PyData.depthAll]; omega)
set_option hygiene false
local macro_rules | `(tactic| walk_at "mem") => `(tactic| (repeat (first | exact List.Mem.head _ | refine List.Mem.tail _ ?_)))
local macro_rules | `(tactic| walk_at "one") => `(tactic| first | exact Dt.int _ | exact Dt.str _ | exact Dt.bl _ | exact Dt.non | exact S.get (by walk_at "mem") | exact S.list (by walk_at "mem"))
local macro_rules | `(tactic| walk_at "has") => `(tactic| first | exact DtAll.nil | exact DtAll.cons (by walk_at "one") (by walk_at "has"))
local macro_rules | `(tactic| walk_at "size") => `(tactic| first | exact Nat.zero_le _ | (show 1 ≤ sizeLine; decide) | (show 2 ≤ sizeLine; decide) | (show 3 ≤ sizeLine; decide) | (show 4 ≤ sizeLine; decide) | (show 5 ≤ sizeLine; decide) | (show 6 ≤ sizeLine; decide) | (show 7 ≤ sizeLine; decide) | (show 8 ≤ sizeLine; decide))
local macro_rules | `(tactic| walk_at "obj") => `(tactic| (refine ⟨by walk_at "size", fun t n => ?_⟩; generalize hx : L2.upd _ t _ = Hc; (first | replace S := S.tup' n hx (by walk_at "has") | replace S := S.lst' n hx (by walk_at "has")); clear n hx))
local macro_rules | `(tactic| walk_at "cat") => `(tactic| (refine ⟨_, _, _, _, rfl, rfl, (S.getL (by walk_at "mem")).1, (S.getL (by walk_at "mem")).1, S.catSize (by walk_at "mem") (by walk_at "mem") (Nat.le_of_ble_eq_true rfl), fun t n => ?_⟩; generalize hx : L2.upd _ t _ = Hc; replace S := S.lst' n hx (DtAll.app (S.getL (by walk_at "mem")).2 (S.getL (by walk_at "mem")).2); dsimp only [List.cons_append, List.nil_append] at S; clear n hx))
local macro_rules | `(tactic| walk_at "draw") => `(tactic| (refine ⟨_, _, _, rfl, S.str, (by first | decide | omega), (by first | decide | omega), fun u Hc u0 u1 b s => ?_⟩; replace S := S.draw b s; clear b s))
local macro_rules | `(tactic| walk_at "pick") => `(tactic| (obtain ⟨v, e, h2, h3, h4, h5⟩ := DtAll.pick (S.getL (a := t) (by walk_at "mem")).2 u0 (by first | exact u1 | omega); refine ⟨_, _, _, _, rfl, rfl, SqL.of (S.getL (a := t) (by walk_at "mem")).1, h2, ?_⟩; replace S := S.put h5; clear h2 h3 h5 u0 u1))
local macro_rules | `(tactic| walk_at "go") => `(tactic| repeat (first | refine ⟨_, rfl, ?_⟩ | walk_at "obj" | walk_at "cat"))
set_option hygiene true
theorem ok_law_case (T : Tx w K mg) : FnOk P w K mg base CX0 6 T.a_law_case T.d_law_case ["stream"] (sp_law_case K) := by
  refine T.F_law_case.ok sc_law_case (fun vs H Q E h => ?_) (fun cdv A outer s H vs Q E hr h => ?_)
  · obtain ⟨p, q, rfl, _⟩ := h
    rfl
  · obtain ⟨p, q, rfl, hS, k⟩ := h
    refine ⟨_, (pss_cons (ps_set (i := 1) sc_law_case.nd rfl (.inl rfl) (pe_call (ok_law_draw T) (hr.mono (by decide)) (by rfl) T.g_law_draw T.F_law_draw.kp T.b_law_draw .nil pass0 (pa_cons (pv 0) (pa_cons pe_int pa_nil))))
      (pss_cons (ps_if (pt_cmpR op_eq (pv 1) pe_int (nomark _)) (pss_cons (ps_set (i := 2) sc_law_case.nd rfl (.inl rfl) (pe_op op_add pe_int (pe_call (ok_law_draw T) (hr.mono (by decide)) (by rfl) T.g_law_draw T.F_law_draw.kp T.b_law_draw .nil pass0 (pa_cons (pv 0) (pa_cons pe_int pa_nil)))))
      (pss_cons (ps_set (i := 3) sc_law_case.nd rfl (.inl rfl) (pe_tup (pa_cons pe_str (pa_cons pe_str pa_nil))))
      (pss_cons (ps_for PassesOwn.never rfl (pi_range1 (by rfl) T.z_range (pa_cons (pe_op op_sub (pv 2) pe_int) pa_nil)) (pg_name (i := 4) sc_law_case.nd rfl (.inl rfl)) (pss_cons (ps_set (i := 5) sc_law_case.nd rfl (.inl rfl) (pe_tup (pa_cons pe_str (pa_cons pe_int pa_nil))))
      (pss_cons (ps_set (i := 6) sc_law_case.nd rfl (.inl rfl) (pe_lst (pa_cons (pe_tup (pa_cons pe_str (pa_cons pe_str (pa_cons (pv 3) pa_nil)))) (pa_cons (pe_tup (pa_cons pe_str (pa_cons pe_str (pa_cons (pv 5) (pa_cons (pv 3) pa_nil))))) (pa_cons (pe_tup (pa_cons pe_str (pa_cons (pv 3) (pa_cons (pv 5) (pa_cons (pv 5) pa_nil))))) (pa_cons (pe_tup (pa_cons pe_str (pa_cons (pv 5) (pa_cons (pv 3) (pa_cons (pv 5) pa_nil))))) pa_nil))))))
      (pss_cons (ps_set (i := 6) sc_law_case.nd rfl (.inl rfl) (pe_op op_cat (pv 6) (pe_lst (pa_cons (pe_tup (pa_cons pe_str (pa_cons pe_str (pa_cons (pv 3) pa_nil)))) (pa_cons (pe_tup (pa_cons pe_str (pa_cons pe_str (pa_cons (pv 3) (pa_cons (pv 5) pa_nil))))) (pa_cons (pe_tup (pa_cons pe_str (pa_cons (pv 5) (pa_cons (pv 5) (pa_cons (pv 3) pa_nil))))) pa_nil))))))
      (pss_one (ps_set (i := 3) sc_law_case.nd rfl (.inl rfl) (pe_ix ix_list (pv 6) (pe_call (ok_law_draw T) (hr.mono (by decide)) (by rfl) T.g_law_draw T.F_law_draw.kp T.b_law_draw .nil pass0 (pa_cons (pv 0) (pa_cons pe_int pa_nil))) (fun _ _ => rfl))))))))
      (pss_cons (ps_set (i := 6) sc_law_case.nd rfl (.inl rfl) (pe_lst (pa_cons (pe_tup (pa_cons pe_str (pa_cons pe_str (pa_cons (pv 3) pa_nil)))) (pa_cons (pe_tup (pa_cons pe_str (pa_cons pe_str (pa_cons (pe_tup (pa_cons pe_str (pa_cons pe_int pa_nil))) (pa_cons (pv 3) pa_nil))))) (pa_cons (pe_tup (pa_cons pe_str (pa_cons (pv 3) (pa_cons (pe_tup pa_nil) (pa_cons (pe_tup pa_nil) pa_nil))))) (pa_cons (pe_tup (pa_cons pe_str (pa_cons pe_str (pa_cons (pv 3) (pa_cons (pe_tup (pa_cons pe_str (pa_cons pe_int pa_nil))) pa_nil))))) pa_nil))))))
      (pss_cons (ps_set (i := 6) sc_law_case.nd rfl (.inl rfl) (pe_op op_cat (pv 6) (pe_lst (pa_cons (pe_tup (pa_cons pe_str (pa_cons pe_str (pa_cons pe_str (pa_cons (pv 3) (pa_cons (pe_tup (pa_cons pe_str (pa_cons pe_int pa_nil))) pa_nil)))))) (pa_cons (pe_tup (pa_cons pe_str (pa_cons pe_str (pa_cons pe_str (pa_cons (pe_tup (pa_cons pe_str (pa_cons pe_int pa_nil))) (pa_cons (pv 3) pa_nil)))))) (pa_cons (pe_tup (pa_cons pe_str (pa_cons (pv 3) (pa_cons (pe_tup pa_nil) pa_nil)))) pa_nil))))))
      (pss_cons (ps_set (i := 7) sc_law_case.nd rfl (.inl rfl) (pe_ix ix_list (pe_op op_cat (pv 6) (pe_lst (pa_cons (pe_tup (pa_cons pe_str (pa_cons pe_str (pa_cons pe_str (pa_cons (pv 3) pa_nil))))) pa_nil))) (pe_call (ok_law_draw T) (hr.mono (by decide)) (by rfl) T.g_law_draw T.F_law_draw.kp T.b_law_draw .nil pass0 (pa_cons (pv 0) (pa_cons pe_int pa_nil))) (fun _ _ => rfl)))
      (pss_one (ps_ret (pe_tup (pa_cons (pe_tup (pa_cons (pe_tup (pa_cons (pe_tup (pa_cons pe_str (pa_cons pe_str pa_nil))) pa_nil)) (pa_cons (pe_tup pa_nil) (pa_cons (pe_tup (pa_cons (pv 7) pa_nil)) pa_nil)))) (pa_cons (pe_cmpR op_le (pv 2) pe_int (nomark _)) pa_nil))))))))))) pss_nil)
      (pss_cons (ps_if (pt_cmpR op_eq (pv 1) pe_int (nomark _)) (pss_cons (ps_set (i := 2) sc_law_case.nd rfl (.inl rfl) (pe_op op_add pe_int (pe_call (ok_law_draw T) (hr.mono (by decide)) (by rfl) T.g_law_draw T.F_law_draw.kp T.b_law_draw .nil pass0 (pa_cons (pv 0) (pa_cons pe_int pa_nil)))))
      (pss_cons (ps_set (i := 8) sc_law_case.nd rfl (.inl rfl) (pe_tup (pa_cons (pe_tup (pa_cons pe_str pa_nil)) pa_nil)))
      (pss_cons (ps_for PassesOwn.never rfl (pi_range1 (by rfl) T.z_range (pa_cons (pe_op op_sub (pv 2) pe_int) pa_nil)) (pg_name (i := 4) sc_law_case.nd rfl (.inl rfl)) (pss_cons (ps_set (i := 5) sc_law_case.nd rfl (.inl rfl) (pe_tup (pa_cons pe_str (pa_cons pe_int pa_nil))))
      (pss_one (ps_set (i := 8) sc_law_case.nd rfl (.inl rfl) (pe_tup (pa_cons (pe_ix ix_list (pe_lst (pa_cons (pe_tup (pa_cons pe_str (pa_cons (pv 5) (pa_cons (pv 8) (pa_cons (pe_tup pa_nil) pa_nil))))) (pa_cons (pe_tup (pa_cons pe_str (pa_cons (pv 5) (pa_cons (pe_tup pa_nil) (pa_cons (pv 8) pa_nil))))) (pa_cons (pe_tup (pa_cons pe_str (pa_cons (pv 5) (pa_cons (pv 8) pa_nil)))) pa_nil)))) (pe_call (ok_law_draw T) (hr.mono (by decide)) (by rfl) T.g_law_draw T.F_law_draw.kp T.b_law_draw .nil pass0 (pa_cons (pv 0) (pa_cons pe_int pa_nil))) (fun _ _ => rfl)) pa_nil))))))
      (pss_one (ps_ret (pe_tup (pa_cons (pe_tup (pa_cons (pe_tup pa_nil) (pa_cons (pe_tup pa_nil) (pa_cons (pv 8) pa_nil)))) (pa_cons (pe_cmpR op_le (pv 2) pe_int (nomark _)) pa_nil)))))))) pss_nil)
      (pss_cons (ps_if (pt_cmpR op_eq (pv 1) pe_int (nomark _)) (pss_cons (ps_set (i := 2) sc_law_case.nd rfl (.inl rfl) (pe_op op_add pe_int (pe_call (ok_law_draw T) (hr.mono (by decide)) (by rfl) T.g_law_draw T.F_law_draw.kp T.b_law_draw .nil pass0 (pa_cons (pv 0) (pa_cons pe_int pa_nil)))))
      (pss_cons (ps_set (i := 9) sc_law_case.nd rfl (.inl rfl) (pe_call (ok_law_draw T) (hr.mono (by decide)) (by rfl) T.g_law_draw T.F_law_draw.kp T.b_law_draw .nil pass0 (pa_cons (pv 0) (pa_cons (pe_op op_sub (pv 2) pe_int) pa_nil))))
      (pss_cons (ps_set (i := 10) sc_law_case.nd rfl (.inl rfl) (pe_op (OpR.or op_rep01 op_repT) (pe_tup (pa_cons (pe_tup (pa_cons pe_str pa_nil)) pa_nil)) (pv 9)))
      (pss_cons (ps_set (i := 11) sc_law_case.nd rfl (.inl rfl) (pe_ix ix_list (pe_lst (pa_cons (pe_tup (pa_cons pe_str (pa_cons (pe_tup (pa_cons pe_str (pa_cons pe_int pa_nil))) (pa_cons (pv 10) (pa_cons (pe_tup pa_nil) pa_nil))))) (pa_cons (pe_tup (pa_cons pe_str (pa_cons (pe_tup (pa_cons pe_str (pa_cons pe_int pa_nil))) (pa_cons (pe_tup pa_nil) (pa_cons (pv 10) pa_nil))))) (pa_cons (pe_tup (pa_cons pe_str (pa_cons (pe_tup (pa_cons pe_str (pa_cons pe_int pa_nil))) (pa_cons (pv 10) pa_nil)))) pa_nil)))) (pe_call (ok_law_draw T) (hr.mono (by decide)) (by rfl) T.g_law_draw T.F_law_draw.kp T.b_law_draw .nil pass0 (pa_cons (pv 0) (pa_cons pe_int pa_nil))) (fun _ _ => rfl)))
      (pss_cons (ps_set (i := 8) sc_law_case.nd rfl (.inl rfl) (pe_op op_catA (pe_tup (pa_cons (pv 11) pa_nil)) (pe_op (OpR.or op_rep01 op_repT) (pe_tup (pa_cons (pe_tup (pa_cons pe_str pa_nil)) pa_nil)) (pe_op op_sub (pe_op op_sub (pv 2) pe_int) (pv 9)))))
      (pss_one (ps_ret (pe_tup (pa_cons (pe_tup (pa_cons (pe_tup pa_nil) (pa_cons (pe_tup pa_nil) (pa_cons (pv 8) pa_nil)))) (pa_cons (pe_cmpR op_le (pv 2) pe_int (nomark _)) pa_nil)))))))))) pss_nil)
      (pss_cons (ps_if (pt_cmpR op_eq (pv 1) pe_int (nomark _)) (pss_cons (ps_set (i := 2) sc_law_case.nd rfl (.inl rfl) (pe_op op_add pe_int (pe_call (ok_law_draw T) (hr.mono (by decide)) (by rfl) T.g_law_draw T.F_law_draw.kp T.b_law_draw .nil pass0 (pa_cons (pv 0) (pa_cons pe_int pa_nil)))))
      (pss_one (ps_ret (pe_tup (pa_cons (pe_tup (pa_cons (pe_callTy call_tuple_of (by rfl) T.z_tuple (by decide +kernel) (pa_cons (pe_lc (own := [("k", 4)]) (g := gName 4) (tt := tYes) rfl sc_law_case.nd (pi_range1 (by rfl) T.z_range (pa_cons (pv 2) pa_nil)) (blkOk_by (N := ["stream", "pick", "many", "value", "k", "one", "rows", "statement", "body", "half", "inner", "outer", "size", "name", "word"]) (sc := defScope s_law_case) (by decide +kernel)) (fun _ _ _ _ _ => (pg_name (i := 4) sc_law_case.nd rfl (.inl rfl))) (fun _ _ _ _ _ => pts_nil) (fun _ _ _ _ _ => (pe_tup (pa_cons (pe_op op_add_str pe_str (pe_callTy call_str_int (by rfl) T.z_str (by decide +kernel) (pa_cons (pv 4) pa_nil))) (pa_cons (pe_ix (show IxR _ (rIxL K) from ix_list) (pe_lst (pa_cons pe_str (pa_cons pe_str pa_nil))) (pe_call (ok_law_draw T) (hr.mono (by decide)) (by rfl) T.g_law_draw T.F_law_draw.kp T.b_law_draw .nil pass0 (pa_cons (pv 0) (pa_cons pe_int pa_nil))) (fun _ _ => rfl)) pa_nil))))) pa_nil)) (pa_cons (pe_tup pa_nil) (pa_cons (pe_tup pa_nil) pa_nil)))) (pa_cons (pe_cmpR op_le (pv 2) pe_int (nomark _)) pa_nil)))))) pss_nil)
      (pss_cons (ps_if (pt_cmpR op_eq (pv 1) pe_int (nomark _)) (pss_cons (ps_set (i := 2) sc_law_case.nd rfl (.inl rfl) (pe_op op_add pe_int (pe_call (ok_law_draw T) (hr.mono (by decide)) (by rfl) T.g_law_draw T.F_law_draw.kp T.b_law_draw .nil pass0 (pa_cons (pv 0) (pa_cons pe_int pa_nil)))))
      (pss_one (ps_ret (pe_tup (pa_cons (pe_tup (pa_cons (pe_tup pa_nil) (pa_cons (pe_callTy call_tuple_of (by rfl) T.z_tuple (by decide +kernel) (pa_cons (pe_lc (own := [("k", 4)]) (g := gName 4) (tt := tYes) rfl sc_law_case.nd (pi_range1 (by rfl) T.z_range (pa_cons (pv 2) pa_nil)) (blkOk_by (N := ["stream", "pick", "many", "value", "k", "one", "rows", "statement", "body", "half", "inner", "outer", "size", "name", "word"]) (sc := defScope s_law_case) (by decide +kernel)) (fun _ _ _ _ _ => (pg_name (i := 4) sc_law_case.nd rfl (.inl rfl))) (fun _ _ _ _ _ => pts_nil) (fun _ _ _ _ _ => (pe_tup (pa_cons (pe_op op_add_str pe_str (pe_callTy call_str_int (by rfl) T.z_str (by decide +kernel) (pa_cons (pv 4) pa_nil))) (pa_cons (pe_op op_add pe_int (pe_call (ok_law_draw T) (hr.mono (by decide)) (by rfl) T.g_law_draw T.F_law_draw.kp T.b_law_draw .nil pass0 (pa_cons (pv 0) (pa_cons pe_int pa_nil)))) pa_nil))))) pa_nil)) (pa_cons (pe_tup pa_nil) pa_nil)))) (pa_cons (pe_cmpR op_le (pv 2) pe_int (nomark _)) pa_nil)))))) pss_nil)
      (pss_cons (ps_if (pt_cmpR op_eq (pv 1) pe_int (nomark _)) (pss_cons (ps_set (i := 12) sc_law_case.nd rfl (.inl rfl) (pe_call (ok_law_draw T) (hr.mono (by decide)) (by rfl) T.g_law_draw T.F_law_draw.kp T.b_law_draw .nil pass0 (pa_cons (pv 0) (pa_cons pe_int pa_nil))))
      (pss_one (ps_ret (pe_tup (pa_cons (pe_tup (pa_cons (pe_tup pa_nil) (pa_cons (pe_tup (pa_cons (pe_tup (pa_cons pe_str (pa_cons (pv 12) pa_nil))) pa_nil)) (pa_cons (pe_tup pa_nil) pa_nil)))) (pa_cons (pe_chain op_le op_le pe_int (pv 12) pe_int) pa_nil)))))) pss_nil)
      (pss_cons (ps_if (pt_cmpR op_eq (pv 1) pe_int (nomark _)) (pss_cons (ps_set (i := 13) sc_law_case.nd rfl (.inl rfl) (pe_slice sl_str pe_str po_none (po_some (pe_op op_add pe_int (pe_call (ok_law_draw T) (hr.mono (by decide)) (by rfl) T.g_law_draw T.F_law_draw.kp T.b_law_draw .nil pass0 (pa_cons (pv 0) (pa_cons pe_int pa_nil)))))))
      (pss_one (ps_ret (pe_tup (pa_cons (pe_tup (pa_cons (pe_tup pa_nil) (pa_cons (pe_tup pa_nil) (pa_cons (pe_tup (pa_cons (pe_tup (pa_cons pe_str (pa_cons (pv 13) (pa_cons (pe_tup (pa_cons pe_str (pa_cons pe_int pa_nil))) pa_nil)))) pa_nil)) pa_nil)))) (pa_cons (pe_cmpR op_le (pe_callB call_len_str (by rfl) T.z_len (by decide +kernel) (pa_cons (pv 13) pa_nil)) pe_int (nomark _)) pa_nil)))))) pss_nil)
      (pss_cons (ps_set (i := 14) sc_law_case.nd rfl (.inl rfl) (pe_op op_add (pe_op op_sub (pe_op op_pow pe_int pe_int) pe_int) (pe_call (ok_law_draw T) (hr.mono (by decide)) (by rfl) T.g_law_draw T.F_law_draw.kp T.b_law_draw .nil pass0 (pa_cons (pv 0) (pa_cons pe_int pa_nil)))))
      (C8.pss_cut (ps_if (pt_cmpR op_eq (pe_call (ok_law_draw T) (hr.mono (by decide)) (by rfl) T.g_law_draw T.F_law_draw.kp T.b_law_draw .nil pass0 (pa_cons (pv 0) (pa_cons pe_int pa_nil))) pe_int (nomark _)) (pss_one (ps_set (i := 14) sc_law_case.nd rfl (.inl rfl) (pe_op op_sub pe_int (pv 14)))) pss_nil)
      (pss_one (ps_ret (pe_tup (pa_cons (pe_tup (pa_cons (pe_tup pa_nil) (pa_cons (pe_tup pa_nil) (pa_cons (pe_tup (pa_cons (pe_tup (pa_cons pe_str (pa_cons pe_str (pa_cons (pe_tup (pa_cons pe_str (pa_cons (pv 14) pa_nil))) pa_nil)))) pa_nil)) pa_nil)))) (pa_cons (pe_chain op_le op_le (pe_un un_neg (pe_op op_pow pe_int pe_int)) (pv 14) (pe_op op_sub (pe_op op_pow pe_int pe_int) pe_int)) pa_nil))))))))))))))), ?_⟩
    refine ⟨_, rfl, p, q, 8, rfl, hS, by decide, by decide, fun pick H1 k0 k1 b1 S1 => ?_⟩
    refine ⟨_, rfl, rfl, _, rfl, ite2 (fun z => ?_) (fun z => ?_)⟩
    · -- nested expressions
      have S := (St.begin (K := K) hS).draw b1 S1
      refine ⟨_, rfl, p, q, 5, rfl, S1, by decide, by decide, fun n H2 n0 n1 b2 S2 => ⟨_, _, rfl, rfl, ?_⟩⟩
      replace S := S.draw b2 S2
      walk_at "obj"
      refine ⟨_, rfl, _, _, rfl, rfl, _, rfl, by omega, by omega, ?_⟩
      refine for_range (n := (8 + n - 1).toNat) (fun i σ H' => ∃ (vv : V) (d : PyData) (yk yo yr : Option V), σ = [some (.ref p), some (.int pick), some (.int (8 + n)), some vv, yk, yo, yr, none, none, none, none, none, none, none, none] ∧ EB i d ∧ St K q p (fun b => b = p) H H' [(vv, d)] [])
        ⟨.ref t, _, none, none, none, rfl, eb_start, S.only (.head _)⟩ ?_ ?_
      · rintro i σ H4 hi ⟨vv, d, yk, yo, yr, rfl, hN, S⟩
        walk_at "go"
        walk_at "draw"
        walk_at "pick"
        exact ⟨_, _, _, _, _, rfl, eb_step hN h4, S.only (.head _)⟩
      · rintro σ H4 ⟨vv, d, yk, yo, yr, rfl, hN, S⟩
        walk_at "go"
        walk_at "draw"
        walk_at "pick"
        walk_at "go"
        refine ⟨_, _, rfl, rfl, ?_⟩
        walk_at "go"
        have z := kernel_eb hN (by omega) h4
        refine k _ _ _ (decide (8 + n ≤ 10)) S.but (S.get (.head _)).dp z.2.1 z.2.2 (z.1.trans ?_)
        congr 1
        exact propext ⟨fun z => by omega, fun z => by omega⟩
    refine ⟨_, rfl, rfl, _, rfl, ite2 (fun z => ?_) (fun z => ?_)⟩
    · -- nested bodies
      have S := (St.begin (K := K) hS).draw b1 S1
      refine ⟨_, rfl, p, q, 5, rfl, S1, by decide, by decide, fun n H2 n0 n1 b2 S2 => ⟨_, _, rfl, rfl, ?_⟩⟩
      replace S := S.draw b2 S2
      walk_at "obj"
      walk_at "obj"
      refine ⟨_, rfl, _, _, rfl, rfl, _, rfl, by omega, by omega, ?_⟩
      refine for_range (n := (8 + n - 1).toNat) (fun i σ H' => ∃ (bv : Addr) (d : PyData) (yk yo : Option V), σ = [some (.ref p), some (.int pick), some (.int (8 + n)), none, yk, yo, none, none, some (.ref bv), none, none, none, none, none, none] ∧ NB i d ∧ St K q p (fun b => b = p) H H' [(.ref bv, d)] [])
        ⟨t, _, none, none, rfl, nb_start, S.only (.head _)⟩ ?_ ?_
      · rintro i σ H4 hi ⟨bv, d, yk, yo, rfl, hN, S⟩
        walk_at "go"
        walk_at "draw"
        walk_at "pick"
        walk_at "go"
        refine ⟨_, _, _, _, rfl, nb_step hN ?_, S.only (.head _)⟩
        simp only [List.mem_cons, List.not_mem_nil, or_false] at h4
        exact h4
      · rintro σ H4 ⟨bv, d, yk, yo, rfl, hN, S⟩
        walk_at "go"
        refine ⟨_, _, rfl, rfl, ?_⟩
        walk_at "go"
        have z := kernel_nb hN (by omega)
        refine k _ _ _ (decide (8 + n ≤ 10)) S.but (S.get (.head _)).dp z.2.1 z.2.2 (z.1.trans ?_)
        congr 1
        exact propext ⟨fun z => by omega, fun z => by omega⟩
    refine ⟨_, rfl, rfl, _, rfl, ite2 (fun z => ?_) (fun z => ?_)⟩
    · -- many statements
      refine ⟨_, rfl, p, q, 5, rfl, S1, by decide, by decide, fun n H2 n0 n1 b2 S2 => ⟨_, _, rfl, rfl, ?_⟩⟩
      refine ⟨_, rfl, _, rfl, _, _, rfl, rfl, p, q, _, rfl, S2, by omega, by omega, fun hf H3 h0 h1 b3 S3 => ?_⟩
      refine ⟨(by show 1 ≤ sizeLine; decide), fun t1 m1 => ⟨(by show 1 ≤ sizeLine; decide), fun t2 m2 => ⟨_, rfl, rep_one (K := K) (SqT.of upd_same) h0 (by omega) (fun r H4 s4 hr4 => ?_)⟩⟩⟩
      have e1 : Dp K _ (.ref t1) (.tuple [.str "barrier"]) := laidT m1 (.cons (.str _) .nil)
      have e2 : Dp K H4 (.ref t1) (.tuple [.str "barrier"]) := (e1.same (same_new5 m2)).same s4
      have reps : ∀ (H : Hp) (v : V) (d : PyData), Dp K H v d → ∀ n : Nat, DpAll K H (List.replicate n v) (List.replicate n d) := fun H v d h n => by
        induction n with
        | zero => exact .nil
        | succ n ih => exact .cons h ih
      have eI : Dp K H4 (.ref r) (barr hf.toNat) := .tup hr4 (reps _ _ _ e2 _)
      have b4 : But p H H4 := ((((b1.trans b2).trans b3).same (same_new5 m1)).same (same_new5 m2)).same s4
      have S4 : Strm q H4 p := ((S3.same (same_new5 m1)).same (same_new5 m2)).same s4
      clear e1 e2 s4 hr4
      refine ⟨(by show 2 ≤ sizeLine; decide), fun a1 n1 => ⟨_, rfl, Nat.zero_le _, fun a2 n2 => ⟨(by show 4 ≤ sizeLine; decide), fun a3 n3 => ⟨(by show 2 ≤ sizeLine; decide), fun a4 n4 => ⟨Nat.zero_le _, fun a5 n5 => ⟨_, rfl, (by show 4 ≤ sizeLine; decide), fun a6 n6 => ⟨(by show 2 ≤ sizeLine; decide), fun a7 n7 => ⟨_, rfl, (by show 3 ≤ sizeLine; decide), fun a8 n8 => ⟨(by show 3 ≤ sizeLine; decide), fun L nL => ?_⟩⟩⟩⟩⟩⟩⟩⟩⟩
      have z1 := same_new5 (o := .tup [.str "word", .int 1]) n1
      have z2 := same_new5 (o := .tup []) n2
      have z3 := same_new5 (o := .tup [.str "if", .ref a1, .ref r, .ref a2]) n3
      have z4 := same_new5 (o := .tup [.str "word", .int 1]) n4
      have z5 := same_new5 (o := .tup []) n5
      have z6 := same_new5 (o := .tup [.str "if", .ref a4, .ref a5, .ref r]) n6
      have z7 := same_new5 (o := .tup [.str "word", .int 1]) n7
      have z8 := same_new5 (o := .tup [.str "while", .ref a7, .ref r]) n8
      have z9 := same_new5 (o := .lst [.ref a3, .ref a6, .ref a8]) nL
      have i2 := (eI.same z1).same z2
      have i5 := ((i2.same z3).same z4).same z5
      have i7 := (i5.same z6).same z7
      have w1 : Dp K _ (.ref a1) one1 := laidT n1 (.cons (.str _) (.cons (.int 1) .nil))
      have w2 : Dp K _ (.ref a2) (.tuple []) := laidT (K := K) n2 .nil
      have w3 : Dp K _ (.ref a3) (.tuple [.str "if", one1, barr hf.toNat, .tuple []]) := laidT n3 (.cons (.str _) (.cons (w1.same z2) (.cons i2 (.cons w2 .nil))))
      have w4 : Dp K _ (.ref a4) one1 := laidT n4 (.cons (.str _) (.cons (.int 1) .nil))
      have w5 : Dp K _ (.ref a5) (.tuple []) := laidT (K := K) n5 .nil
      have w6 : Dp K _ (.ref a6) (.tuple [.str "if", one1, .tuple [], barr hf.toNat]) := laidT n6 (.cons (.str _) (.cons (w4.same z5) (.cons w5 (.cons i5 .nil))))
      have w7 : Dp K _ (.ref a7) one1 := laidT n7 (.cons (.str _) (.cons (.int 1) .nil))
      have w8 : Dp K _ (.ref a8) (.tuple [.str "while", one1, barr hf.toNat]) := laidT n8 (.cons (.str _) (.cons w7 (.cons i7 .nil)))
      have x3 := (((((w3.same z4).same z5).same z6).same z7).same z8).same z9
      have x6 := ((w6.same z7).same z8).same z9
      have x8 := w8.same z9
      have S8 := (((((((S4.same z1).same z2).same z3).same z4).same z5).same z6).same z7).same z8
      have S9 := S8.same z9
      have b9 := ((((((((b4.same z1).same z2).same z3).same z4).same z5).same z6).same z7).same z8).same z9
      have hLp : L ≠ p := S8.nep nL
      clear w1 w2 w3 w4 w5 w6 w7 w8 i2 i5 i7 z1 z2 z3 z4 z5 z6 z7 z8 z9 S8
      refine ⟨_, rfl, p, q, 3, rfl, S9, by decide, by decide, fun u H5 u0 u1 b5 S5 => ?_⟩
      have hL5 : H5 L = some (.lst [V.ref a3, V.ref a6, V.ref a8]) := b5 _ _ hLp upd_same
      have hout : ∃ (x : Addr) (d : PyData), atI [V.ref a3, V.ref a6, V.ref a8] u = some (.ref x) ∧ Outer hf.toNat d ∧ Dp K H5 (.ref x) d := by
        have : u = 0 ∨ u = 1 ∨ u = 2 := by omega
        rcases this with rfl | rfl | rfl
        · exact ⟨a3, _, rfl, .inl rfl, Dp.over S9 b5 x3 (outer_only (.inl rfl))⟩
        · exact ⟨a6, _, rfl, .inr (.inl rfl), Dp.over S9 b5 x6 (outer_only (.inr (.inl rfl)))⟩
        · exact ⟨a8, _, rfl, .inr (.inr rfl), Dp.over S9 b5 x8 (outer_only (.inr (.inr rfl)))⟩
      obtain ⟨x, d, hx, ho, dx⟩ := hout
      have b10 := b9.trans b5
      clear x3 x6 x8 S9 b9
      refine ⟨L, _, u, .ref x, rfl, rfl, SqL.of hL5, hx, ?_⟩
      refine ⟨_, rfl, (by show 1 ≤ sizeLine; decide), fun c1 y1 => ⟨(by show 1 ≤ sizeLine; decide), fun c2 y2 => ⟨(by show 1 ≤ sizeLine; decide), fun c3 y3 => ?_⟩⟩⟩
      refine ⟨_, rfl, _, _, rfl, rfl, _, rfl, _, _, rfl, rfl, rep_one (K := K) (SqT.of upd_same) (by omega) (by omega) (fun rr H6 s6 hr6 => ?_)⟩
      have y1s := same_new5 (o := .tup [.ref x]) y1
      have y2s := same_new5 (o := .tup [.str "return"]) y2
      have y3s := same_new5 (o := .tup [.ref c2]) y3
      have v1 : Dp K _ (.ref c1) (.tuple [d]) := laidT y1 (.cons dx .nil)
      have v2 : Dp K _ (.ref c2) (.tuple [.str "return"]) := laidT y2 (.cons (.str _) .nil)
      have v3 := ((v1.same y2s).same y3s).same s6
      have v4 : Dp K H6 (.ref rr) (.tuple (rets (98 + n - 1 - hf).toNat)) := .tup hr6 (reps _ _ _ ((v2.same y3s).same s6) _)
      have b11 := (((b10.same y1s).same y2s).same y3s).same s6
      clear v1 v2 y1s y2s y3s
      refine rCatA_dp v3 v4 (by unfold rets; rw [List.length_replicate]; exact Nat.le_of_lt (small1000 (by show 1 + (98 + n - 1 - hf).toNat ≤ 1000; omega))) (fun rb H7 zs s7 hz rz => ?_)
      have b12 := b11.same s7
      have v5 : Dp K H7 (.ref rb) (.tuple (d :: rets (98 + n - 1 - hf).toNat)) := .tup hz rz
      refine ⟨Nat.zero_le _, fun g1 e1 => ⟨Nat.zero_le _, fun g2 e2 => ⟨_, rfl, (by show 3 ≤ sizeLine; decide), fun g3 e3 => ⟨_, rfl, _, _, rfl, rfl, (by show 2 ≤ sizeLine; decide), fun g4 e4 => ?_⟩⟩⟩⟩
      have q1 := same_new5 (o := .tup []) e1
      have q2 := same_new5 (o := .tup []) e2
      have q3 := same_new5 (o := .tup [.ref g1, .ref g2, .ref rb]) e3
      have r1 : Dp K _ (.ref g1) (.tuple []) := laidT (K := K) e1 .nil
      have r2 : Dp K _ (.ref g2) (.tuple []) := laidT (K := K) e2 .nil
      have r3 : Dp K _ (.ref g3) (.tuple [.tuple [], .tuple [], .tuple (d :: rets (98 + n - 1 - hf).toNat)]) := laidT e3 (.cons (r1.same q2) (.cons r2 (.cons ((v5.same q1).same q2) .nil)))
      have mo := many_ok (r := (98 + n - 1 - hf).toNat) ho
      refine k _ _ _ _ ((((b12.same q1).same q2).same q3).same (same_new5 e4)) (laidT e4 (.cons r3 (.cons (.bl _) .nil))) mo.1 mo.2 ((kernel_many ho (by omega)).trans ?_)
      by_cases zz : 1 + hf.toNat + (98 + n - 1 - hf).toNat ≤ 100
      · rw [decide_eq_true zz, decide_eq_true (by omega)]
      · rw [decide_eq_false zz, decide_eq_false (by omega)]
    refine ⟨_, rfl, rfl, _, rfl, ite2 (fun z => ?_) (fun z => ?_)⟩
    · -- params
      refine ⟨_, rfl, p, q, 3, rfl, S1, by decide, by decide, fun n H3 n0 n1 b2 S3 => ⟨_, _, rfl, rfl, ?_⟩⟩
      have bb := b1.trans b2
      have mN : ∃ m : Nat, (5 + n : Int) = (m : Int) ∧ 5 ≤ m ∧ m ≤ 7 := ⟨(5 + n).toNat, by omega, by omega, by omega⟩
      obtain ⟨m, hm, hm2, hm4⟩ := mN
      refine ⟨_, rfl, 5 + n, rfl, by omega, by omega, fun D nD => ?_⟩
      have hDp : D ≠ p := S3.nep nD
      have e0 : (5 + n : Int).toNat = m := by omega
      refine lc_range (n := (5 + n : Int).toNat) (fun j H' => ∃ (vs : List V) (ds : List PyData), H' D = some (.lst vs) ∧ DtAll (M2 p D) K H' vs ds ∧ ds.length = j ∧ j ≤ 7 ∧ (∀ i d, ds[i]? = some d → PaR i d) ∧ (∀ b o, b ≠ p → b ≠ D → H3 b = some o → H' b = some o) ∧ Strm q H' p)
        ⟨[], [], upd_same, .nil, rfl, by decide, (fun i d h => by simp at h), (fun b o _ nb h => (upd_ne nb).trans h), S3.same (same_new5 nD)⟩ ?_ ?_
      · rintro j H4 hj ⟨vs, ds, hD, hds, hl, hj4, hsh, o4, S4⟩
        have hj2 : j = 0 ∨ j = 1 ∨ j = 2 ∨ j = 3 ∨ j = 4 ∨ j = 5 ∨ j = 6 := by omega
        have lg : (0 + (j : Int)).natAbs.log2 < 1920 := by rcases hj2 with rfl | rfl | rfl | rfl | rfl | rfl | rfl <;> decide +kernel
        have ln : ("p" : Str).length + (Str.ofString (toString (0 + (j : Int)))).length ≤ sizeLine := by rcases hj2 with rfl | rfl | rfl | rfl | rfl | rfl | rfl <;> decide +kernel
        refine ⟨rfl, _, rfl, 0 + (j : Int), rfl, lg, _, _, rfl, rfl, ln, (by show 2 ≤ sizeLine; decide), fun l ml => ?_⟩
        have sl := same_new5 (o := .lst [.str "int", .str "buffer"]) ml
        have hl6 : L2.upd H4 l (.lst [.str "int", .str "buffer"]) l = some (.lst [.str "int", .str "buffer"]) := upd_same
        have lp : l ≠ p := S4.nep ml
        have S6 := S4.same sl
        have hD6 := sl _ _ hD
        generalize L2.upd H4 l (.lst [.str "int", .str "buffer"]) = H6 at sl hl6 S6 hD6 ⊢
        refine ⟨_, rfl, p, q, 2, rfl, S6, by decide, by decide, fun u H5 u0 u1 b5 S5 => ?_⟩
        have hs : ∃ s : Str, atI [V.str "int", V.str "buffer"] u = some (.str s) ∧ (s = "int" ∨ s = "buffer") := by
          have : u = 0 ∨ u = 1 := by omega
          rcases this with rfl | rfl
          · exact ⟨"int", rfl, .inl rfl⟩
          · exact ⟨"buffer", rfl, .inr rfl⟩
        obtain ⟨sx, hs1, hs2⟩ := hs
        refine ⟨l, _, u, .str sx, rfl, rfl, SqL.of (b5 _ _ lp hl6), hs1, (by show 2 ≤ sizeLine; decide), fun t nt => ?_⟩
        have hD5 := b5 _ _ hDp hD6
        have htD : t ≠ D := fun e => by rw [e, hD5] at nt; cases nt
        have htp : t ≠ p := S5.nep nt
        have hlv := hds.len
        refine ⟨vs, by rw [upd_ne (Ne.symm htD)]; exact hD5, small1000 (by omega), vs ++ [.ref t], ds ++ [.tuple [.str (nmK j), .str sx]], upd_same, ?_, ?_, by omega, ?_, ?_, ?_⟩
        · have off : Off (M2 p D) H4 (L2.upd (L2.upd H5 t (.tup [.str (nmK j), .str sx])) D (.lst (vs ++ [.ref t]))) := fun b o nb hb => by
            have nb2 : b ≠ p := fun z => nb (.inl z)
            have e5 := b5 b o nb2 (sl _ _ hb)
            rw [upd_ne (fun z => nb (.inr z)), upd_ne (ne_of_none e5 nt)]
            exact e5
          exact (hds.off off).app (.cons (.laid (fun z => z.elim htp htD) (by rw [upd_ne htD, upd_same]) (.cons (.str _) (.cons (.str _) .nil))) .nil)
        · rw [List.length_append, hl]; rfl
        · intro i d hd
          by_cases hi : i < ds.length
          · rw [List.getElem?_append_left hi] at hd
            exact hsh i d hd
          · rw [List.getElem?_append_right (by omega)] at hd
            have : i = ds.length := by
              by_cases h0 : i - ds.length = 0
              · omega
              · rw [List.getElem?_eq_none (by rw [List.length_singleton]; omega)] at hd
                cases hd
            subst this
            rw [Nat.sub_self] at hd
            cases hd
            rw [hl]
            exact ⟨sx, rfl, hs2⟩
        · intro b o nb1 nb2 hb
          have e5 := b5 b o nb1 (sl _ _ (o4 b o nb1 nb2 hb))
          rw [upd_ne nb2, upd_ne (ne_of_none e5 nt)]
          exact e5
        · exact (S5.same (same_new5 nt)).upd hDp (fun z => by
            obtain ⟨_, _, _, ns, _, e2, _⟩ := S4
            obtain ⟨_, _, _, ns0, _, e20, _⟩ := S3
            rw [z, e20] at nD
            cases nD)
      · rintro H4 ⟨vs, ds, hD, hds, hl, hj4, hsh, o4, S4⟩
        rw [e0] at hl hj4
        have pk := kernel_params hl hm2 hm4 hsh
        refine ⟨D, vs, rfl, .inl ⟨SqL.of hD, fun t2 n2 => ⟨Nat.zero_le _, fun t3 n3 => ⟨Nat.zero_le _, fun t1 m1 => ⟨(by show 3 ≤ sizeLine; decide), fun t4 n4 => ⟨_, rfl, _, _, rfl, rfl, (by show 2 ≤ sizeLine; decide), fun t5 n5 => ?_⟩⟩⟩⟩⟩⟩
        have b4 : But p H H4 := fun b o nb hb => o4 b o nb (fun z => by have y := bb b o nb hb; rw [z, nD] at y; cases y) (bb b o nb hb)
        have s2 := same_new5 (o := .tup vs) n2
        have s3 := same_new5 (o := .tup []) n3
        have s1 := same_new5 (o := .tup []) m1
        have s4 := same_new5 (o := .tup [.ref t2, .ref t3, .ref t1]) n4
        have e2 : Dp K _ (.ref t2) (.tuple ds) := laidT n2 (DtAll.dp hds)
        have e3 : Dp K _ (.ref t3) (.tuple []) := laidT (K := K) n3 .nil
        have e1 : Dp K _ (.ref t1) (.tuple []) := laidT (K := K) m1 .nil
        have e4 : Dp K _ (.ref t4) (.tuple [.tuple ds, .tuple [], .tuple []]) := laidT n4 (.cons ((e2.same s3).same s1) (.cons (e3.same s1) (.cons e1 .nil)))
        refine k _ _ _ _ (((((b4.same s2).same s3).same s1).same s4).same (same_new5 n5)) (laidT n5 (.cons e4 (.cons (.bl _) .nil))) pk.2.1 pk.2.2 (pk.1.trans ?_)
        by_cases z : m ≤ 6
        · rw [decide_eq_true z, decide_eq_true (by omega)]
        · rw [decide_eq_false z, decide_eq_false (by omega)]
    refine ⟨_, rfl, rfl, _, rfl, ite2 (fun z => ?_) (fun z => ?_)⟩
    · -- shared arrays
      refine ⟨_, rfl, p, q, 3, rfl, S1, by decide, by decide, fun n H2 n0 n1 b2 S2 => ⟨_, _, rfl, rfl, Nat.zero_le _, fun t1 m1 => ?_⟩⟩
      have s1 := same_new5 (o := .tup []) m1
      have d1 : L2.upd H2 t1 (.tup []) t1 = some (.tup []) := upd_same
      have t1p : t1 ≠ p := S2.nep m1
      have S3 := S2.same s1
      have bb := (b1.trans b2).same s1
      generalize L2.upd H2 t1 (.tup []) = H3 at d1 S3 bb ⊢
      have mN : ∃ m : Nat, (2 + n : Int) = (m : Int) ∧ 2 ≤ m ∧ m ≤ 4 := ⟨(2 + n).toNat, by omega, by omega, by omega⟩
      obtain ⟨m, hm, hm2, hm4⟩ := mN
      refine ⟨_, rfl, 2 + n, rfl, by omega, by omega, fun D nD => ?_⟩
      have hDp : D ≠ p := S3.nep nD
      have e0 : (2 + n : Int).toNat = m := by omega
      refine lc_range (n := (2 + n : Int).toNat) (fun j H' => ∃ (vs : List V) (ds : List PyData), H' D = some (.lst vs) ∧ DtAll (M2 p D) K H' vs ds ∧ ds.length = j ∧ j ≤ 4 ∧ (∀ i d, ds[i]? = some d → ShR i d) ∧ (∀ b o, b ≠ p → b ≠ D → H3 b = some o → H' b = some o) ∧ Strm q H' p)
        ⟨[], [], upd_same, .nil, rfl, by decide, (fun i d h => by simp at h), (fun b o _ nb h => (upd_ne nb).trans h), S3.same (same_new5 nD)⟩ ?_ ?_
      · rintro j H4 hj ⟨vs, ds, hD, hds, hl, hj4, hsh, o4, S4⟩
        have hj2 : j = 0 ∨ j = 1 ∨ j = 2 ∨ j = 3 := by omega
        have lg : (0 + (j : Int)).natAbs.log2 < 1920 := by rcases hj2 with rfl | rfl | rfl | rfl <;> decide +kernel
        have ln : ("p" : Str).length + (Str.ofString (toString (0 + (j : Int)))).length ≤ sizeLine := by rcases hj2 with rfl | rfl | rfl | rfl <;> decide +kernel
        refine ⟨rfl, _, rfl, 0 + (j : Int), rfl, lg, _, _, rfl, rfl, ln, _, rfl, p, q, 16, rfl, S4, by decide, by decide, fun u H5 u0 u1 b5 S5 => ⟨_, _, rfl, rfl, (by show 2 ≤ sizeLine; decide), fun t nt => ?_⟩⟩
        have hD5 := b5 _ _ hDp hD
        have htD : t ≠ D := fun e => by rw [e, hD5] at nt; cases nt
        have htp : t ≠ p := S5.nep nt
        have hlv := hds.len
        refine ⟨vs, by rw [upd_ne (Ne.symm htD)]; exact hD5, small1000 (by omega), vs ++ [.ref t], ds ++ [.tuple [.str (nmK j), .int (1 + u)]], upd_same, ?_, ?_, by omega, ?_, ?_, ?_⟩
        · have off : Off (M2 p D) H4 (L2.upd (L2.upd H5 t (.tup [.str (nmK j), .int (1 + u)])) D (.lst (vs ++ [.ref t]))) := fun b o nb hb => by
            have nb2 : b ≠ p := fun z => nb (.inl z)
            have e5 := b5 b o nb2 hb
            rw [upd_ne (fun z => nb (.inr z)), upd_ne (ne_of_none e5 nt)]
            exact e5
          exact (hds.off off).app (.cons (.laid (fun z => z.elim htp htD) (by rw [upd_ne htD, upd_same]) (.cons (.str _) (.cons (.int _) .nil))) .nil)
        · rw [List.length_append, hl]; rfl
        · intro i d hd
          by_cases hi : i < ds.length
          · rw [List.getElem?_append_left hi] at hd
            exact hsh i d hd
          · rw [List.getElem?_append_right (by omega)] at hd
            have : i = ds.length := by
              by_cases h0 : i - ds.length = 0
              · omega
              · rw [List.getElem?_eq_none (by rw [List.length_singleton]; omega)] at hd
                cases hd
            subst this
            rw [Nat.sub_self] at hd
            cases hd
            rw [hl]
            exact ⟨1 + u, rfl, by omega, by omega⟩
        · intro b o nb1 nb2 hb
          have e5 := b5 b o nb1 (o4 b o nb1 nb2 hb)
          rw [upd_ne nb2, upd_ne (ne_of_none e5 nt)]
          exact e5
        · exact (S5.same (same_new5 nt)).upd hDp (fun z => by
            obtain ⟨_, _, _, ns, _, e2, _⟩ := S4
            obtain ⟨_, _, _, ns0, _, e20, _⟩ := S3
            rw [z, e20] at nD
            cases nD)
      · rintro H4 ⟨vs, ds, hD, hds, hl, hj4, hsh, o4, S4⟩
        rw [e0] at hl hj4
        have pk := kernel_shared hl hm2 hm4 hsh
        refine ⟨D, vs, rfl, .inl ⟨SqL.of hD, fun t2 n2 => ⟨Nat.zero_le _, fun t3 n3 => ⟨(by show 3 ≤ sizeLine; decide), fun t4 n4 => ⟨_, rfl, _, _, rfl, rfl, (by show 2 ≤ sizeLine; decide), fun t5 n5 => ?_⟩⟩⟩⟩⟩
        have d14 : Dp K H4 (.ref t1) (.tuple []) := .tup (SqT.of (o4 _ _ t1p (fun z => by rw [z, nD] at d1; cases d1) d1)) .nil
        have b4 : But p H H4 := fun b o nb hb => o4 b o nb (fun z => by have y := bb b o nb hb; rw [z, nD] at y; cases y) (bb b o nb hb)
        have s2 := same_new5 (o := .tup vs) n2
        have s3 := same_new5 (o := .tup []) n3
        have s4 := same_new5 (o := .tup [.ref t1, .ref t2, .ref t3]) n4
        have e2 : Dp K _ (.ref t2) (.tuple ds) := laidT n2 (DtAll.dp hds)
        have e3 : Dp K _ (.ref t3) (.tuple []) := laidT (K := K) n3 .nil
        have e4 : Dp K _ (.ref t4) (.tuple [.tuple [], .tuple ds, .tuple []]) := laidT n4 (.cons ((d14.same s2).same s3) (.cons (e2.same s3) (.cons e3 .nil)))
        refine k _ _ _ _ ((((b4.same s2).same s3).same s4).same (same_new5 n5)) (laidT n5 (.cons e4 (.cons (.bl _) .nil))) pk.2.1 pk.2.2 (pk.1.trans ?_)
        by_cases z : m ≤ 3
        · rw [decide_eq_true z, decide_eq_true (by omega)]
        · rw [decide_eq_false z, decide_eq_false (by omega)]
    refine ⟨_, rfl, rfl, _, rfl, ite2 (fun z => ?_) (fun z => ?_)⟩
    · -- a size
      refine ⟨_, rfl, p, q, 18, rfl, S1, by decide, by decide, fun n H2 n0 n1 b2 S2 => ?_⟩
      refine ⟨Nat.zero_le _, fun t1 m1 => ⟨_, rfl, (by show 2 ≤ sizeLine; decide), fun t2 m2 => ⟨(by show 1 ≤ sizeLine; decide), fun t3 m3 => ⟨Nat.zero_le _, fun t4 m4 => ⟨(by show 3 ≤ sizeLine; decide), fun t5 m5 => ?_⟩⟩⟩⟩⟩
      have d1 : Dp K _ (.ref t1) (.tuple []) := laidT m1 .nil
      have d2 : Dp K _ (.ref t2) (.tuple [.str "s", .int n]) := laidT m2 (.cons (.str _) (.cons (.int n) .nil))
      have d3 : Dp K _ (.ref t3) (.tuple [.tuple [.str "s", .int n]]) := laidT m3 (.cons d2 .nil)
      have d4 : Dp K _ (.ref t4) (.tuple []) := laidT m4 .nil
      have d5 : Dp K _ (.ref t5) (.tuple [.tuple [], .tuple [.tuple [.str "s", .int n]], .tuple []]) := laidT m5 (.cons (((d1.same (same_new5 m2)).same (same_new5 m3)).same (same_new5 m4)) (.cons (d3.same (same_new5 m4)) (.cons d4 .nil)))
      have bb := (((((b1.trans b2).same (same_new5 m1)).same (same_new5 m2)).same (same_new5 m3)).same (same_new5 m4)).same (same_new5 (o := .tup [.ref t1, .ref t3, .ref t4]) m5)
      have fin : ∀ t6 b, b = (decide ((1 : Int) ≤ n) && decide (n ≤ 16)) → L2.upd _ t5 (.tup [.ref t1, .ref t3, .ref t4]) t6 = none → Q (.ref t6) (L2.upd (L2.upd _ t5 (.tup [.ref t1, .ref t3, .ref t4])) t6 (.tup [.ref t5, .bl b])) := fun t6 b hb m6 =>
        k _ _ _ b (bb.same (same_new5 m6)) (laidT m6 (.cons d5 (.cons (.bl b) .nil))) (by simp only [fine, fineAll]; decide +kernel) (by simp only [PyData.depth, PyData.depthAll]; omega) ((kernel_size n).trans hb.symm)
      refine ⟨_, rfl, _, _, rfl, rfl, _, rfl, ?_⟩
      by_cases h1 : (1 : Int) ≤ n
      · refine iteY (decide_eq_true h1) ⟨_, _, rfl, rfl, (by show 2 ≤ sizeLine; decide), fun t6 m6 => fin t6 _ ?_ m6⟩
        rw [decide_eq_true h1, Bool.true_and]
      · refine iteN (by rw [decide_eq_false h1]; exact Bool.false_ne_true) ⟨(by show 2 ≤ sizeLine; decide), fun t6 m6 => fin t6 _ ?_ m6⟩
        rw [decide_eq_false h1, Bool.false_and]
    refine ⟨_, rfl, rfl, _, rfl, ite2 (fun z => ?_) (fun z => ?_)⟩
    · -- a name
      refine ⟨_, rfl, p, q, 3, rfl, S1, by decide, by decide, fun n H2 n0 n1 b2 S2 => ?_⟩
      refine ⟨_, _, rfl, rfl, _, rfl, "abcdefghijkl9m", rfl, by decide +kernel, ?_⟩
      have facts : nameS (cutS "abcdefghijkl9m" none (some (11 + n))).cps.toList = decide (((cutS "abcdefghijkl9m" none (some (11 + n))).length : Int) ≤ 12) ∧ fine (.str (cutS "abcdefghijkl9m" none (some (11 + n)))) = true := by
        have hn : n = 0 ∨ n = 1 ∨ n = 2 := by omega
        rcases hn with rfl | rfl | rfl <;> (simp only [fine]; decide +kernel)
      generalize cutS "abcdefghijkl9m" none (some (11 + n)) = nm at facts ⊢
      obtain ⟨f1, f2⟩ := facts
      refine ⟨Nat.zero_le _, fun t1 m1 => ⟨Nat.zero_le _, fun t2 m2 => ⟨_, rfl, (by show 2 ≤ sizeLine; decide), fun t3 m3 => ⟨(by show 3 ≤ sizeLine; decide), fun t4 m4 => ⟨(by show 1 ≤ sizeLine; decide), fun t5 m5 => ⟨(by show 3 ≤ sizeLine; decide), fun t6 m6 => ?_⟩⟩⟩⟩⟩⟩
      have d1 : Dp K _ (.ref t1) (.tuple []) := laidT m1 .nil
      have d2 : Dp K _ (.ref t2) (.tuple []) := laidT m2 .nil
      have d3 : Dp K _ (.ref t3) (.tuple [.str "word", .int 1]) := laidT m3 (.cons (.str _) (.cons (.int 1) .nil))
      have d4 : Dp K _ (.ref t4) (.tuple [.str "let", .str nm, .tuple [.str "word", .int 1]]) := laidT m4 (.cons (.str _) (.cons (.str _) (.cons d3 .nil)))
      have d5 : Dp K _ (.ref t5) (.tuple [.tuple [.str "let", .str nm, .tuple [.str "word", .int 1]]]) := laidT m5 (.cons d4 .nil)
      have s35 := ((same_new5 (o := .tup [.str "word", .int 1]) m3).trans (same_new5 (o := .tup [.str "let", .str nm, .ref t3]) m4)).trans (same_new5 (o := .tup [.ref t4]) m5)
      have d6 : Dp K _ (.ref t6) (.tuple [.tuple [], .tuple [], .tuple [.tuple [.str "let", .str nm, .tuple [.str "word", .int 1]]]]) := laidT m6 (.cons ((d1.same (same_new5 m2)).same s35) (.cons (d2.same s35) (.cons d5 .nil)))
      have b6 := ((((b1.trans b2).same (same_new5 m1)).same (same_new5 m2)).same s35).same (same_new5 (o := .tup [.ref t1, .ref t2, .ref t5]) m6)
      refine ⟨_, rfl, nm, rfl, fine_len f2, _, _, rfl, rfl, (by show 2 ≤ sizeLine; decide), fun t7 m7 => ?_⟩
      have ff : fine (.tuple [.str "word", .int 1]) = true := by simp only [fine, fineAll]; decide +kernel
      exact k _ _ _ _ (b6.same (same_new5 m7)) (laidT m7 (.cons d6 (.cons (.bl _) .nil))) (by
          show (true && (true && (((((PyData.canLay0 (.str "let") && decide (Str.length "let" ≤ sizeLine)) && ((PyData.canLay0 (.str nm) && decide (nm.length ≤ sizeLine)) && (fine (.tuple [.str "word", .int 1]) && true))) && true)) && true))) = true
          have g2 := f2
          unfold fine at g2
          rw [g2, ff]
          decide +kernel) (by simp only [PyData.depth, PyData.depthAll]; omega) (kernel_let f1 ((expr_word _ 9 1).trans (by decide)))
    -- a word
    have c31 : CPow 2 31 := ⟨by decide, by decide, by decide⟩
    refine ⟨_, _, rfl, rfl, c31, _, _, rfl, rfl, _, rfl, p, q, 4, rfl, S1, by decide, by decide, fun n H2 n0 n1 b2 S2 => ⟨_, _, rfl, rfl, ?_⟩⟩
    refine ⟨fun σ' H' => ∃ n' : Int, σ' = [some (.ref p), some (.int pick), none, none, none, none, none, none, none, none, none, none, none, none, some (.int n')] ∧ But p H H', ?_, ?_⟩
    · exact ⟨_, rfl, p, q, 2, rfl, S2, by decide, by decide, fun u H3 u0 u1 b3 S3 => ⟨rfl, _, rfl, ite2 (fun z => ⟨_, rfl, _, _, rfl, rfl, _, rfl, (b1.trans b2).trans b3⟩) (fun z => ⟨_, rfl, (b1.trans b2).trans b3⟩)⟩⟩
    · rintro σ' H3 ⟨n', rfl, bb⟩
      refine ⟨Nat.zero_le _, fun t1 m1 => ⟨Nat.zero_le _, fun t2 m2 => ⟨_, rfl, (by show 2 ≤ sizeLine; decide), fun t3 m3 => ⟨(by show 3 ≤ sizeLine; decide), fun t4 m4 => ⟨(by show 1 ≤ sizeLine; decide), fun t5 m5 => ⟨(by show 3 ≤ sizeLine; decide), fun t6 m6 => ?_⟩⟩⟩⟩⟩⟩
      have d1 : Dp K _ (.ref t1) (.tuple []) := laidT m1 .nil
      have d2 : Dp K _ (.ref t2) (.tuple []) := laidT m2 .nil
      have d3 : Dp K _ (.ref t3) (.tuple [.str "word", .int n']) := laidT m3 (.cons (.str _) (.cons (.int n') .nil))
      have d4 : Dp K _ (.ref t4) (.tuple [.str "let", .str "x", .tuple [.str "word", .int n']]) := laidT m4 (.cons (.str _) (.cons (.str _) (.cons d3 .nil)))
      have d5 : Dp K _ (.ref t5) (.tuple [.tuple [.str "let", .str "x", .tuple [.str "word", .int n']]]) := laidT m5 (.cons d4 .nil)
      have s35 := ((same_new5 (o := .tup [.str "word", .int n']) m3).trans (same_new5 (o := .tup [.str "let", .str "x", .ref t3]) m4)).trans (same_new5 (o := .tup [.ref t4]) m5)
      have d6 : Dp K _ (.ref t6) (.tuple [.tuple [], .tuple [], .tuple [.tuple [.str "let", .str "x", .tuple [.str "word", .int n']]]]) := laidT m6 (.cons ((d1.same (same_new5 m2)).same s35) (.cons (d2.same s35) (.cons d5 .nil)))
      have b6 := (((bb.same (same_new5 m1)).same (same_new5 m2)).same s35).same (same_new5 (o := .tup [.ref t1, .ref t2, .ref t5]) m6)
      have fin : ∀ t7 b, b = (decide ((-2147483648 : Int) ≤ n') && decide (n' ≤ 2147483647)) → L2.upd _ t6 (.tup [.ref t1, .ref t2, .ref t5]) t7 = none → Q (.ref t7) (L2.upd (L2.upd _ t6 (.tup [.ref t1, .ref t2, .ref t5])) t7 (.tup [.ref t6, .bl b])) := fun t7 b hb m7 =>
        k _ _ _ b (b6.same (same_new5 m7)) (laidT m7 (.cons d6 (.cons (.bl b) .nil))) (by simp only [fine, fineAll]; decide +kernel) (by simp only [PyData.depth, PyData.depthAll]; omega) ((kernel_word n').trans hb.symm)
      refine ⟨_, _, rfl, rfl, c31, _, rfl, _, rfl, _, _, rfl, rfl, _, rfl, ?_⟩
      by_cases h1 : (-2147483648 : Int) ≤ n'
      · refine iteY (decide_eq_true h1) ⟨_, _, rfl, rfl, c31, _, _, rfl, rfl, _, _, rfl, rfl, (by show 2 ≤ sizeLine; decide), fun t7 m7 => fin t7 _ ?_ m7⟩
        rw [decide_eq_true h1, Bool.true_and]
        rfl
      · refine iteN (by rw [show decide (-(2 : Int) ^ Int.toNat 31 ≤ n') = false from decide_eq_false h1]; exact Bool.false_ne_true) ⟨(by show 2 ≤ sizeLine; decide), fun t7 m7 => fin t7 _ ?_ m7⟩
        rw [decide_eq_false h1, Bool.false_and]
def sp_law (K : PySem.W.Frag) : Sp := fun vs H Q _ => ∃ (a : Addr) (ns : List Int), vs = [.ref a] ∧ SqL K H a (ns.map V.int) ∧ ns.length ≤ 63 ∧ ∀ H', Q (.bl true) H'
theorem ref_eq : PyData.eqv (refused "kernel") (refused "kernel") = true := by decide +kernel
theorem shaped_of {d : PyData} (h : d.canLay0 = true) (l : d.depth ≤ 64) : SeqAt.shaped d = true := by
  unfold SeqAt.shaped
  rw [h, decide_eq_true l]
  rfl
theorem cutH (xs : List V) : cutV xs none (some (1 : Int)) = xs.take 1 := by
  unfold cutV
  rw [show (1 : Int) = ((1 : Nat) : Int) from rfl, HT.sIx_nat, HT.sIx_none, List.drop_zero, Nat.sub_zero]
  cases xs with
  | nil => rfl
  | cons x r => rw [List.length_cons, Nat.min_eq_left (by omega)]
theorem DpAll.take {K : PySem.W.Frag} {H : Hp} : ∀ {vs : List V} {ds : List PyData} (n : Nat), DpAll K H vs ds → DpAll K H (vs.take n) (ds.take n)
  | _, _, 0, _ => .nil
  | _, _, _ + 1, .nil => .nil
  | _, _, n + 1, .cons h r => .cons h (DpAll.take n r)
theorem eqv_refl' (d : PyData) (h : SeqAt.shaped d = true) : PyData.eqv d d = true := SeqAt.eqv_refl d (SeqAt.canLay_of_shaped h)
theorem shaped_take {p s : PyData} {its : List PyData} (fd : fine (.tuple [p, s, .tuple its]) = true) (dep : (PyData.tuple [p, s, .tuple its]).depth ≤ 60) : SeqAt.shaped (.list (its.take 1)) = true := by
  have f3 := fine_tup (fineAll_mem (fine_tup fd) (.tail _ (.tail _ (.head _))))
  have d3 : PyData.depthAll its ≤ 60 := by
    have e : (PyData.tuple [p, s, .tuple its]).depth = max p.depth (max s.depth (max (PyData.depthAll its + 1) 0)) + 1 := by simp only [PyData.depth, PyData.depthAll]
    omega
  cases its with
  | nil => decide +kernel
  | cons x r =>
    have fx := fineAll_mem f3 (.head _)
    have dx : PyData.depthAll (x :: r) = max x.depth (PyData.depthAll r) := by simp only [PyData.depthAll]
    refine shaped_of ?_ ?_
    · show PyData.canLay0 (.list [x]) = true
      have lx := fine_lay _ fx
      simp only [PyData.canLay0, PyData.canLayAll0, lx, Bool.and_self]
    · show PyData.depth (.list [x]) ≤ 64
      simp only [PyData.depth, PyData.depthAll]
      omega
theorem ok_law (T : Tx w K mg) : FnOk P w K mg base CX0 80 T.a_law T.d_law ["script"] (sp_law K) := by
  refine T.F_law.ok sc_law (fun vs H Q E h => ?_) (fun cdv A outer s H vs Q E hr h => ?_)
  · obtain ⟨a, ns, rfl, _⟩ := h
    rfl
  · obtain ⟨a, ns, rfl, hS, hlen, qq⟩ := h
    refine ⟨_, (pss_cons (ps_set (i := 1) sc_law.nd rfl (.inl rfl) (pe_call (ok_law_stream T) (hr.mono (by decide)) (by rfl) T.g_law_stream T.F_law_stream.kp T.b_law_stream .nil pass0 (pa_cons (pv 0) pa_nil)))
      (pss_cons (ps_asg (pe_call (ok_law_case T) (hr.mono (by decide)) (by rfl) T.g_law_case T.F_law_case.kp T.b_law_case .nil pass0 (pa_cons (pv 1) pa_nil)) (pg_tup rfl (pgs_cons (pg_name (i := 2) sc_law.nd rfl (.inl rfl)) (pgs_cons (pg_name (i := 3) sc_law.nd rfl (.inl rfl)) pgs_nil))))
      (pss_cons (ps_if (pt_not (pt_truth (pv 3) (by intro _; rfl))) (pss_one (ps_ret (pe_cmpR (op_eqD hr.units) (pe_call (ok_law_told T) (hr.mono (by decide)) (by rfl) T.g_law_told T.F_law_told.kp T.b_law_told .nil pass0 (pa_cons (pv 2) pa_nil)) (pe_tup (pa_cons pe_str (pa_cons pe_str pa_nil))) (nomark _)))) pss_nil)
      (pss_one (ps_ret (pe_and (pe_cmpR op_isN (pe_call (ok_law_told T) (hr.mono (by decide)) (by rfl) T.g_law_told T.F_law_told.kp T.b_law_told .nil pass0 (pa_cons (pv 2) pa_nil)) pe_non (nomark _)) (pe_one (pe_cmpR (op_eqD hr.units) (pe_slice sl_list (pe_call (ok_statements T) (hr.mono (by decide)) (by rfl) T.g_statements T.F_statements.kp T.b_statements .nil pass0 (pa_cons (pv 2) pa_nil)) po_none (po_some pe_int)) (pe_slice sl_list (pe_callTy call_list_of (by rfl) T.z_list (by decide +kernel) (pa_cons (pe_ix ix_tup (pv 2) pe_int (fun _ _ => rfl)) pa_nil)) po_none (po_some pe_int)) (nomark _))))))))), ?_⟩
    refine ⟨_, rfl, a, ns, rfl, hS, hlen, fun H1 p q s1 np nq S1 => ?_⟩
    refine ⟨_, rfl, p, q, rfl, S1, fun r H2 d b b2 dr fd dep kb => ?_⟩
    cases dr with
    | @tup ar vrs _ har rar =>
    cases rar with
    | @cons vd _ _ _ dd rar =>
    cases rar with
    | @cons vb _ _ _ db rar =>
    cases rar
    cases db
    refine ⟨ar, _, rfl, har, rfl, vd, _, rfl, .bl b, _, rfl, rfl, ?_⟩
    cases b with
    | false =>
      refine ⟨_, rfl, false, rfl, iteT ?_⟩
      refine ⟨_, rfl, vd, d, rfl, dd, fd, (fun h => by rw [kb] at h; cases h), fun _ H3 r3 s3 dr3 => ⟨(by show 2 ≤ sizeLine; decide), fun t nt => ?_⟩⟩
      have s4 := same_new5 (o := .tup [.str "refused", .str "kernel"]) nt
      refine ⟨refused "kernel", refused "kernel", dr3.same s4, .tup (SqT.of upd_same) (.cons (.str _) (.cons (.str _) .nil)), by decide +kernel, by decide +kernel, ?_⟩
      rw [ref_eq]
      exact qq _
    | true =>
      refine ⟨_, rfl, true, rfl, iteF ?_⟩
      obtain ⟨dp, ds, its, rfl, hw, hfl, htk⟩ := kernel_good kb
      refine ⟨_, rfl, vd, _, rfl, dd, fd, fun _ H3 s3 => ?_, (fun h => by rw [kb] at h; cases h)⟩
      refine ⟨rfl, _, rfl, iteT ?_⟩
      refine ⟨_, rfl, vd, dp, ds, .tuple its, rfl, dd.same s3, hw, by omega, fun l H4 ls s4 nl hl dl => ?_⟩
      dsimp only [tNoPart]
      refine ⟨1, rfl, l, ls, rfl, SqL.of hl, fun r1 n1 => ?_⟩
      rw [cutH]
      have s5 := same_new5 (o := .lst (ls.take 1)) n1
      have s35 := (s3.trans s4).trans s5
      have dd5 := dd.same s35
      have e1 : Dp K (L2.upd H4 r1 (.lst (ls.take 1))) (.ref r1) (.list ((flat 10 (.tuple its)).take 1)) := .lst (SqL.of (show L2.upd H4 r1 (.lst (ls.take 1)) r1 = some (.lst (ls.take 1)) from upd_same)) (DpAll.take 1 (DpAll.same (s4.trans s5) dl))
      generalize L2.upd H4 r1 (.lst (ls.take 1)) = H5 at dd5 e1 ⊢
      cases dd5 with
      | @tup a5 xs5 _ h5 r5 =>
      cases r5 with
      | @cons w1 _ _ _ p1 r6 =>
      cases r6 with
      | @cons w2 _ _ _ p2 r7 =>
      cases r7 with
      | @cons w3 _ _ _ p3 r8 =>
      cases r8
      cases p3 with
      | @tup a6 xs6 _ h6 r6 =>
      refine ⟨_, rfl, a5, _, 2, .ref a6, rfl, rfl, h5, atI_nat (i := 2) rfl, a6, xs6, rfl, .inr h6, fun l2 n2 => ?_⟩
      dsimp only [tNoPart]
      refine ⟨1, rfl, l2, xs6, rfl, SqL.of upd_same, fun r2 n3 => ?_⟩
      rw [cutH]
      have s6 := same_new5 (o := .lst xs6) n2
      have s7 := same_new5 (o := .lst (xs6.take 1)) n3
      have lay := fine_lay _ fd
      have l3 := lay
      refine ⟨.list ((flat 10 (.tuple its)).take 1), .list (its.take 1), (e1.same s6).same s7, .lst (SqL.of upd_same) (DpAll.take 1 (DpAll.same (s6.trans s7) r6)), ?_, ?_, ?_⟩
      · rw [htk]; exact shaped_take fd dep
      · exact shaped_take fd dep
      · rw [htk, eqv_refl' _ (shaped_take fd dep)]
        exact qq _

end
/-! ### what the top has written, the end -/
theorem all_mk {l : PySem.W.OpenLaw} {w : World} {K : PySem.W.Frag} {h : Heap} {mg : Str → Option Value} {fa : Addr} (X : K.In h) (G : h.Ns mainGlobals mg) (hfa : mg "law" = some (.ref fa))
    {finit : Addr} {odinit aninit : Option Addr} {slinit : Array (Option Value)} {ocinit kVinit dcinit pminit cdinit ctinit : Value}
    {fis_body : Addr} {odis_body anis_body : Option Addr} {slis_body : Array (Option Value)} {ocis_body kVis_body dcis_body pmis_body cdis_body ctis_body : Value}
    {fis_statement : Addr} {odis_statement anis_statement : Option Addr} {slis_statement : Array (Option Value)} {ocis_statement kVis_statement dcis_statement pmis_statement cdis_statement ctis_statement : Value}
    {fis_between : Addr} {odis_between anis_between : Option Addr} {slis_between : Array (Option Value)} {ocis_between kVis_between dcis_between pmis_between cdis_between ctis_between : Value}
    {fis_word : Addr} {odis_word anis_word : Option Addr} {slis_word : Array (Option Value)} {ocis_word kVis_word dcis_word pmis_word cdis_word ctis_word : Value}
    {fis_tuple : Addr} {odis_tuple anis_tuple : Option Addr} {slis_tuple : Array (Option Value)} {ocis_tuple kVis_tuple dcis_tuple pmis_tuple cdis_tuple ctis_tuple : Value}
    {fis_name : Addr} {odis_name anis_name : Option Addr} {slis_name : Array (Option Value)} {ocis_name kVis_name dcis_name pmis_name cdis_name ctis_name : Value}
    {fis_param : Addr} {odis_param anis_param : Option Addr} {slis_param : Array (Option Value)} {ocis_param kVis_param dcis_param pmis_param cdis_param ctis_param : Value}
    {fis_shared_array : Addr} {odis_shared_array anis_shared_array : Option Addr} {slis_shared_array : Array (Option Value)} {ocis_shared_array kVis_shared_array dcis_shared_array pmis_shared_array cdis_shared_array ctis_shared_array : Value}
    {fis_head : Addr} {odis_head anis_head : Option Addr} {slis_head : Array (Option Value)} {ocis_head kVis_head dcis_head pmis_head cdis_head ctis_head : Value}
    {fknown_at_first : Addr} {odknown_at_first anknown_at_first : Option Addr} {slknown_at_first : Array (Option Value)} {ocknown_at_first kVknown_at_first dcknown_at_first pmknown_at_first cdknown_at_first ctknown_at_first : Value}
    {ffirst_word : Addr} {odfirst_word anfirst_word : Option Addr} {slfirst_word : Array (Option Value)} {ocfirst_word kVfirst_word dcfirst_word pmfirst_word cdfirst_word ctfirst_word : Value}
    {fis_choice : Addr} {odis_choice anis_choice : Option Addr} {slis_choice : Array (Option Value)} {ocis_choice kVis_choice dcis_choice pmis_choice cdis_choice ctis_choice : Value}
    {fis_part : Addr} {odis_part anis_part : Option Addr} {slis_part : Array (Option Value)} {ocis_part kVis_part dcis_part pmis_part cdis_part ctis_part : Value}
    {fis_expression : Addr} {odis_expression anis_expression : Option Addr} {slis_expression : Array (Option Value)} {ocis_expression kVis_expression dcis_expression pmis_expression cdis_expression ctis_expression : Value}
    {fis_kernel : Addr} {odis_kernel anis_kernel : Option Addr} {slis_kernel : Array (Option Value)} {ocis_kernel kVis_kernel dcis_kernel pmis_kernel cdis_kernel ctis_kernel : Value}
    {fcheck_kernel : Addr} {odcheck_kernel ancheck_kernel : Option Addr} {slcheck_kernel : Array (Option Value)} {occheck_kernel kVcheck_kernel dccheck_kernel pmcheck_kernel cdcheck_kernel ctcheck_kernel : Value}
    {fbodies : Addr} {odbodies anbodies : Option Addr} {slbodies : Array (Option Value)} {ocbodies kVbodies dcbodies pmbodies cdbodies ctbodies : Value}
    {fstatements_in : Addr} {odstatements_in anstatements_in : Option Addr} {slstatements_in : Array (Option Value)} {ocstatements_in kVstatements_in dcstatements_in pmstatements_in cdstatements_in ctstatements_in : Value}
    {fstatements : Addr} {odstatements anstatements : Option Addr} {slstatements : Array (Option Value)} {ocstatements kVstatements dcstatements pmstatements cdstatements ctstatements : Value}
    {flaw_stream : Addr} {odlaw_stream anlaw_stream : Option Addr} {sllaw_stream : Array (Option Value)} {oclaw_stream kVlaw_stream dclaw_stream pmlaw_stream cdlaw_stream ctlaw_stream : Value}
    {flaw_draw : Addr} {odlaw_draw anlaw_draw : Option Addr} {sllaw_draw : Array (Option Value)} {oclaw_draw kVlaw_draw dclaw_draw pmlaw_draw cdlaw_draw ctlaw_draw : Value}
    {flaw_given : Addr} {odlaw_given anlaw_given : Option Addr} {sllaw_given : Array (Option Value)} {oclaw_given kVlaw_given dclaw_given pmlaw_given cdlaw_given ctlaw_given : Value}
    {flaw_told : Addr} {odlaw_told anlaw_told : Option Addr} {sllaw_told : Array (Option Value)} {oclaw_told kVlaw_told dclaw_told pmlaw_told cdlaw_told ctlaw_told : Value}
    {flaw_case : Addr} {odlaw_case anlaw_case : Option Addr} {sllaw_case : Array (Option Value)} {oclaw_case kVlaw_case dclaw_case pmlaw_case cdlaw_case ctlaw_case : Value}
    {flaw : Addr} {odlaw anlaw : Option Addr} {sllaw : Array (Option Value)} {oclaw kVlaw dclaw pmlaw cdlaw ctlaw : Value}
    {CWalk : Addr}
    {CDrawloomError : Addr}
    {CBadKernel : Addr}
    {tLEAST : Tok}
    {tGREATEST : Tok}
    {tMOST_LETTERS : Tok}
    {tMOST_PARAMS : Tok}
    {tMOST_SHARED : Tok}
    {tMOST_SHARED_CELLS : Tok}
    {tDEEPEST_BODY : Tok}
    {tDEEPEST_EXPRESSION : Tok}
    {tMOST_STATEMENTS : Tok}
    {tLETTERS : Tok}
    {tDIGITS : Tok}
    {pSPECIALS : Addr} {odSPECIALS : Option Addr} {itsSPECIALS : Array Value} {nSPECIALS : Nat} {slSPECIALS : Array (Option Value)}
    {pUNARY : Addr} {odUNARY : Option Addr} {itsUNARY : Array Value} {nUNARY : Nat} {slUNARY : Array (Option Value)}
    {pFOLDING : Addr} {odFOLDING : Option Addr} {itsFOLDING : Array Value} {nFOLDING : Nat} {slFOLDING : Array (Option Value)}
    {pBINARY : Addr} {odBINARY : Option Addr} {itsBINARY : Array Value} {nBINARY : Nat} {slBINARY : Array (Option Value)}
    {pEXPRESSION_PARTS : Addr} {esEXPRESSION_PARTS : Array DictEntry} {nEXPRESSION_PARTS : Nat}
    {qEXPRESSION_PARTS_0 : Addr} {odEXPRESSION_PARTS_0 : Option Addr} {itsEXPRESSION_PARTS_0 : Array Value} {nEXPRESSION_PARTS_0 : Nat} {slEXPRESSION_PARTS_0 : Array (Option Value)}
    {qEXPRESSION_PARTS_1 : Addr} {odEXPRESSION_PARTS_1 : Option Addr} {itsEXPRESSION_PARTS_1 : Array Value} {nEXPRESSION_PARTS_1 : Nat} {slEXPRESSION_PARTS_1 : Array (Option Value)}
    {qEXPRESSION_PARTS_2 : Addr} {odEXPRESSION_PARTS_2 : Option Addr} {itsEXPRESSION_PARTS_2 : Array Value} {nEXPRESSION_PARTS_2 : Nat} {slEXPRESSION_PARTS_2 : Array (Option Value)}
    {qEXPRESSION_PARTS_3 : Addr} {odEXPRESSION_PARTS_3 : Option Addr} {itsEXPRESSION_PARTS_3 : Array Value} {nEXPRESSION_PARTS_3 : Nat} {slEXPRESSION_PARTS_3 : Array (Option Value)}
    {qEXPRESSION_PARTS_4 : Addr} {odEXPRESSION_PARTS_4 : Option Addr} {itsEXPRESSION_PARTS_4 : Array Value} {nEXPRESSION_PARTS_4 : Nat} {slEXPRESSION_PARTS_4 : Array (Option Value)}
    {qEXPRESSION_PARTS_5 : Addr} {odEXPRESSION_PARTS_5 : Option Addr} {itsEXPRESSION_PARTS_5 : Array Value} {nEXPRESSION_PARTS_5 : Nat} {slEXPRESSION_PARTS_5 : Array (Option Value)}
    {qEXPRESSION_PARTS_6 : Addr} {odEXPRESSION_PARTS_6 : Option Addr} {itsEXPRESSION_PARTS_6 : Array Value} {nEXPRESSION_PARTS_6 : Nat} {slEXPRESSION_PARTS_6 : Array (Option Value)}
    {pSTATEMENT_PARTS : Addr} {esSTATEMENT_PARTS : Array DictEntry} {nSTATEMENT_PARTS : Nat}
    {qSTATEMENT_PARTS_0 : Addr} {odSTATEMENT_PARTS_0 : Option Addr} {itsSTATEMENT_PARTS_0 : Array Value} {nSTATEMENT_PARTS_0 : Nat} {slSTATEMENT_PARTS_0 : Array (Option Value)}
    {qSTATEMENT_PARTS_1 : Addr} {odSTATEMENT_PARTS_1 : Option Addr} {itsSTATEMENT_PARTS_1 : Array Value} {nSTATEMENT_PARTS_1 : Nat} {slSTATEMENT_PARTS_1 : Array (Option Value)}
    {qSTATEMENT_PARTS_2 : Addr} {odSTATEMENT_PARTS_2 : Option Addr} {itsSTATEMENT_PARTS_2 : Array Value} {nSTATEMENT_PARTS_2 : Nat} {slSTATEMENT_PARTS_2 : Array (Option Value)}
    {qSTATEMENT_PARTS_3 : Addr} {odSTATEMENT_PARTS_3 : Option Addr} {itsSTATEMENT_PARTS_3 : Array Value} {nSTATEMENT_PARTS_3 : Nat} {slSTATEMENT_PARTS_3 : Array (Option Value)}
    {qSTATEMENT_PARTS_4 : Addr} {odSTATEMENT_PARTS_4 : Option Addr} {itsSTATEMENT_PARTS_4 : Array Value} {nSTATEMENT_PARTS_4 : Nat} {slSTATEMENT_PARTS_4 : Array (Option Value)}
    {qSTATEMENT_PARTS_5 : Addr} {odSTATEMENT_PARTS_5 : Option Addr} {itsSTATEMENT_PARTS_5 : Array Value} {nSTATEMENT_PARTS_5 : Nat} {slSTATEMENT_PARTS_5 : Array (Option Value)}
    {qSTATEMENT_PARTS_6 : Addr} {odSTATEMENT_PARTS_6 : Option Addr} {itsSTATEMENT_PARTS_6 : Array Value} {nSTATEMENT_PARTS_6 : Nat} {slSTATEMENT_PARTS_6 : Array (Option Value)}
    {qSTATEMENT_PARTS_7 : Addr} {odSTATEMENT_PARTS_7 : Option Addr} {itsSTATEMENT_PARTS_7 : Array Value} {nSTATEMENT_PARTS_7 : Nat} {slSTATEMENT_PARTS_7 : Array (Option Value)}
    {qSTATEMENT_PARTS_8 : Addr} {odSTATEMENT_PARTS_8 : Option Addr} {itsSTATEMENT_PARTS_8 : Array Value} {nSTATEMENT_PARTS_8 : Nat} {slSTATEMENT_PARTS_8 : Array (Option Value)}
    {qSTATEMENT_PARTS_9 : Addr} {odSTATEMENT_PARTS_9 : Option Addr} {itsSTATEMENT_PARTS_9 : Array Value} {nSTATEMENT_PARTS_9 : Nat} {slSTATEMENT_PARTS_9 : Array (Option Value)}
    {qSTATEMENT_PARTS_10 : Addr} {odSTATEMENT_PARTS_10 : Option Addr} {itsSTATEMENT_PARTS_10 : Array Value} {nSTATEMENT_PARTS_10 : Nat} {slSTATEMENT_PARTS_10 : Array (Option Value)}
    (ais_between : PySem.W.nsIn K mainGlobals "is_between" = some (some (.ref fis_between)))
    (lis_between : K.lookup fis_between = some ⟨ocis_between, odis_between, .func (PySem.W.fnOf "is_between" "is_between" (defArgs s_is_between) (defBody s_is_between) (defScope s_is_between) .none kVis_between dcis_between pmis_between anis_between cdis_between ctis_between), slis_between⟩)
    (cis_between : PySem.W.codeIn K cdis_between "is_between" = true)
    (kis_between : PySem.W.keepIn K (.ref fis_between) = true)
    (ais_word : PySem.W.nsIn K mainGlobals "is_word" = some (some (.ref fis_word)))
    (lis_word : K.lookup fis_word = some ⟨ocis_word, odis_word, .func (PySem.W.fnOf "is_word" "is_word" (defArgs s_is_word) (defBody s_is_word) (defScope s_is_word) .none kVis_word dcis_word pmis_word anis_word cdis_word ctis_word), slis_word⟩)
    (cis_word : PySem.W.codeIn K cdis_word "is_word" = true)
    (kis_word : PySem.W.keepIn K (.ref fis_word) = true)
    (ais_tuple : PySem.W.nsIn K mainGlobals "is_tuple" = some (some (.ref fis_tuple)))
    (lis_tuple : K.lookup fis_tuple = some ⟨ocis_tuple, odis_tuple, .func (PySem.W.fnOf "is_tuple" "is_tuple" (defArgs s_is_tuple) (defBody s_is_tuple) (defScope s_is_tuple) .none kVis_tuple dcis_tuple pmis_tuple anis_tuple cdis_tuple ctis_tuple), slis_tuple⟩)
    (cis_tuple : PySem.W.codeIn K cdis_tuple "is_tuple" = true)
    (kis_tuple : PySem.W.keepIn K (.ref fis_tuple) = true)
    (ais_name : PySem.W.nsIn K mainGlobals "is_name" = some (some (.ref fis_name)))
    (lis_name : K.lookup fis_name = some ⟨ocis_name, odis_name, .func (PySem.W.fnOf "is_name" "is_name" (defArgs s_is_name) (defBody s_is_name) (defScope s_is_name) .none kVis_name dcis_name pmis_name anis_name cdis_name ctis_name), slis_name⟩)
    (cis_name : PySem.W.codeIn K cdis_name "is_name" = true)
    (kis_name : PySem.W.keepIn K (.ref fis_name) = true)
    (ais_param : PySem.W.nsIn K mainGlobals "is_param" = some (some (.ref fis_param)))
    (lis_param : K.lookup fis_param = some ⟨ocis_param, odis_param, .func (PySem.W.fnOf "is_param" "is_param" (defArgs s_is_param) (defBody s_is_param) (defScope s_is_param) .none kVis_param dcis_param pmis_param anis_param cdis_param ctis_param), slis_param⟩)
    (cis_param : PySem.W.codeIn K cdis_param "is_param" = true)
    (kis_param : PySem.W.keepIn K (.ref fis_param) = true)
    (ais_shared_array : PySem.W.nsIn K mainGlobals "is_shared_array" = some (some (.ref fis_shared_array)))
    (lis_shared_array : K.lookup fis_shared_array = some ⟨ocis_shared_array, odis_shared_array, .func (PySem.W.fnOf "is_shared_array" "is_shared_array" (defArgs s_is_shared_array) (defBody s_is_shared_array) (defScope s_is_shared_array) .none kVis_shared_array dcis_shared_array pmis_shared_array anis_shared_array cdis_shared_array ctis_shared_array), slis_shared_array⟩)
    (cis_shared_array : PySem.W.codeIn K cdis_shared_array "is_shared_array" = true)
    (kis_shared_array : PySem.W.keepIn K (.ref fis_shared_array) = true)
    (ais_head : PySem.W.nsIn K mainGlobals "is_head" = some (some (.ref fis_head)))
    (lis_head : K.lookup fis_head = some ⟨ocis_head, odis_head, .func (PySem.W.fnOf "is_head" "is_head" (defArgs s_is_head) (defBody s_is_head) (defScope s_is_head) .none kVis_head dcis_head pmis_head anis_head cdis_head ctis_head), slis_head⟩)
    (cis_head : PySem.W.codeIn K cdis_head "is_head" = true)
    (kis_head : PySem.W.keepIn K (.ref fis_head) = true)
    (aknown_at_first : PySem.W.nsIn K mainGlobals "known_at_first" = some (some (.ref fknown_at_first)))
    (lknown_at_first : K.lookup fknown_at_first = some ⟨ocknown_at_first, odknown_at_first, .func (PySem.W.fnOf "known_at_first" "known_at_first" (defArgs s_known_at_first) (defBody s_known_at_first) (defScope s_known_at_first) .none kVknown_at_first dcknown_at_first pmknown_at_first anknown_at_first cdknown_at_first ctknown_at_first), slknown_at_first⟩)
    (cknown_at_first : PySem.W.codeIn K cdknown_at_first "known_at_first" = true)
    (kknown_at_first : PySem.W.keepIn K (.ref fknown_at_first) = true)
    (afirst_word : PySem.W.nsIn K mainGlobals "first_word" = some (some (.ref ffirst_word)))
    (lfirst_word : K.lookup ffirst_word = some ⟨ocfirst_word, odfirst_word, .func (PySem.W.fnOf "first_word" "first_word" (defArgs s_first_word) (defBody s_first_word) (defScope s_first_word) .none kVfirst_word dcfirst_word pmfirst_word anfirst_word cdfirst_word ctfirst_word), slfirst_word⟩)
    (cfirst_word : PySem.W.codeIn K cdfirst_word "first_word" = true)
    (kfirst_word : PySem.W.keepIn K (.ref ffirst_word) = true)
    (ais_choice : PySem.W.nsIn K mainGlobals "is_choice" = some (some (.ref fis_choice)))
    (lis_choice : K.lookup fis_choice = some ⟨ocis_choice, odis_choice, .func (PySem.W.fnOf "is_choice" "is_choice" (defArgs s_is_choice) (defBody s_is_choice) (defScope s_is_choice) .none kVis_choice dcis_choice pmis_choice anis_choice cdis_choice ctis_choice), slis_choice⟩)
    (cis_choice : PySem.W.codeIn K cdis_choice "is_choice" = true)
    (kis_choice : PySem.W.keepIn K (.ref fis_choice) = true)
    (ais_part : PySem.W.nsIn K mainGlobals "is_part" = some (some (.ref fis_part)))
    (lis_part : K.lookup fis_part = some ⟨ocis_part, odis_part, .func (PySem.W.fnOf "is_part" "is_part" (defArgs s_is_part) (defBody s_is_part) (defScope s_is_part) .none kVis_part dcis_part pmis_part anis_part cdis_part ctis_part), slis_part⟩)
    (cis_part : PySem.W.codeIn K cdis_part "is_part" = true)
    (kis_part : PySem.W.keepIn K (.ref fis_part) = true)
    (ais_expression : PySem.W.nsIn K mainGlobals "is_expression" = some (some (.ref fis_expression)))
    (lis_expression : K.lookup fis_expression = some ⟨ocis_expression, odis_expression, .func (PySem.W.fnOf "is_expression" "is_expression" (defArgs s_is_expression) (defBody s_is_expression) (defScope s_is_expression) .none kVis_expression dcis_expression pmis_expression anis_expression cdis_expression ctis_expression), slis_expression⟩)
    (cis_expression : PySem.W.codeIn K cdis_expression "is_expression" = true)
    (kis_expression : PySem.W.keepIn K (.ref fis_expression) = true)
    (ais_kernel : PySem.W.nsIn K mainGlobals "is_kernel" = some (some (.ref fis_kernel)))
    (lis_kernel : K.lookup fis_kernel = some ⟨ocis_kernel, odis_kernel, .func (PySem.W.fnOf "is_kernel" "is_kernel" (defArgs s_is_kernel) (defBody s_is_kernel) (defScope s_is_kernel) .none kVis_kernel dcis_kernel pmis_kernel anis_kernel cdis_kernel ctis_kernel), slis_kernel⟩)
    (cis_kernel : PySem.W.codeIn K cdis_kernel "is_kernel" = true)
    (kis_kernel : PySem.W.keepIn K (.ref fis_kernel) = true)
    (acheck_kernel : PySem.W.nsIn K mainGlobals "check_kernel" = some (some (.ref fcheck_kernel)))
    (lcheck_kernel : K.lookup fcheck_kernel = some ⟨occheck_kernel, odcheck_kernel, .func (PySem.W.fnOf "check_kernel" "check_kernel" (defArgs s_check_kernel) (defBody s_check_kernel) (defScope s_check_kernel) .none kVcheck_kernel dccheck_kernel pmcheck_kernel ancheck_kernel cdcheck_kernel ctcheck_kernel), slcheck_kernel⟩)
    (ccheck_kernel : PySem.W.codeIn K cdcheck_kernel "check_kernel" = true)
    (kcheck_kernel : PySem.W.keepIn K (.ref fcheck_kernel) = true)
    (abodies : PySem.W.nsIn K mainGlobals "bodies" = some (some (.ref fbodies)))
    (lbodies : K.lookup fbodies = some ⟨ocbodies, odbodies, .func (PySem.W.fnOf "bodies" "bodies" (defArgs s_bodies) (defBody s_bodies) (defScope s_bodies) .none kVbodies dcbodies pmbodies anbodies cdbodies ctbodies), slbodies⟩)
    (cbodies : PySem.W.codeIn K cdbodies "bodies" = true)
    (kbodies : PySem.W.keepIn K (.ref fbodies) = true)
    (astatements_in : PySem.W.nsIn K mainGlobals "statements_in" = some (some (.ref fstatements_in)))
    (lstatements_in : K.lookup fstatements_in = some ⟨ocstatements_in, odstatements_in, .func (PySem.W.fnOf "statements_in" "statements_in" (defArgs s_statements_in) (defBody s_statements_in) (defScope s_statements_in) .none kVstatements_in dcstatements_in pmstatements_in anstatements_in cdstatements_in ctstatements_in), slstatements_in⟩)
    (cstatements_in : PySem.W.codeIn K cdstatements_in "statements_in" = true)
    (kstatements_in : PySem.W.keepIn K (.ref fstatements_in) = true)
    (astatements : PySem.W.nsIn K mainGlobals "statements" = some (some (.ref fstatements)))
    (lstatements : K.lookup fstatements = some ⟨ocstatements, odstatements, .func (PySem.W.fnOf "statements" "statements" (defArgs s_statements) (defBody s_statements) (defScope s_statements) .none kVstatements dcstatements pmstatements anstatements cdstatements ctstatements), slstatements⟩)
    (cstatements : PySem.W.codeIn K cdstatements "statements" = true)
    (kstatements : PySem.W.keepIn K (.ref fstatements) = true)
    (alaw_stream : PySem.W.nsIn K mainGlobals "_law_stream" = some (some (.ref flaw_stream)))
    (llaw_stream : K.lookup flaw_stream = some ⟨oclaw_stream, odlaw_stream, .func (PySem.W.fnOf "_law_stream" "_law_stream" (defArgs s_law_stream) (defBody s_law_stream) (defScope s_law_stream) .none kVlaw_stream dclaw_stream pmlaw_stream anlaw_stream cdlaw_stream ctlaw_stream), sllaw_stream⟩)
    (claw_stream : PySem.W.codeIn K cdlaw_stream "_law_stream" = true)
    (klaw_stream : PySem.W.keepIn K (.ref flaw_stream) = true)
    (alaw_draw : PySem.W.nsIn K mainGlobals "_law_draw" = some (some (.ref flaw_draw)))
    (llaw_draw : K.lookup flaw_draw = some ⟨oclaw_draw, odlaw_draw, .func (PySem.W.fnOf "_law_draw" "_law_draw" (defArgs s_law_draw) (defBody s_law_draw) (defScope s_law_draw) .none kVlaw_draw dclaw_draw pmlaw_draw anlaw_draw cdlaw_draw ctlaw_draw), sllaw_draw⟩)
    (claw_draw : PySem.W.codeIn K cdlaw_draw "_law_draw" = true)
    (klaw_draw : PySem.W.keepIn K (.ref flaw_draw) = true)
    (alaw_given : PySem.W.nsIn K mainGlobals "_law_given" = some (some (.ref flaw_given)))
    (llaw_given : K.lookup flaw_given = some ⟨oclaw_given, odlaw_given, .func (PySem.W.fnOf "_law_given" "_law_given" (defArgs s_law_given) (defBody s_law_given) (defScope s_law_given) .none kVlaw_given dclaw_given pmlaw_given anlaw_given cdlaw_given ctlaw_given), sllaw_given⟩)
    (claw_given : PySem.W.codeIn K cdlaw_given "_law_given" = true)
    (klaw_given : PySem.W.keepIn K (.ref flaw_given) = true)
    (alaw_told : PySem.W.nsIn K mainGlobals "_law_told" = some (some (.ref flaw_told)))
    (llaw_told : K.lookup flaw_told = some ⟨oclaw_told, odlaw_told, .func (PySem.W.fnOf "_law_told" "_law_told" (defArgs s_law_told) (defBody s_law_told) (defScope s_law_told) .none kVlaw_told dclaw_told pmlaw_told anlaw_told cdlaw_told ctlaw_told), sllaw_told⟩)
    (claw_told : PySem.W.codeIn K cdlaw_told "_law_told" = true)
    (klaw_told : PySem.W.keepIn K (.ref flaw_told) = true)
    (alaw_case : PySem.W.nsIn K mainGlobals "_law_case" = some (some (.ref flaw_case)))
    (llaw_case : K.lookup flaw_case = some ⟨oclaw_case, odlaw_case, .func (PySem.W.fnOf "_law_case" "_law_case" (defArgs s_law_case) (defBody s_law_case) (defScope s_law_case) .none kVlaw_case dclaw_case pmlaw_case anlaw_case cdlaw_case ctlaw_case), sllaw_case⟩)
    (claw_case : PySem.W.codeIn K cdlaw_case "_law_case" = true)
    (klaw_case : PySem.W.keepIn K (.ref flaw_case) = true)
    (alaw : PySem.W.nsIn K mainGlobals "law" = some (some (.ref flaw)))
    (llaw : K.lookup flaw = some ⟨oclaw, odlaw, .func (PySem.W.fnOf "law" "law" (defArgs s_law) (defBody s_law) (defScope s_law) .none kVlaw dclaw pmlaw anlaw cdlaw ctlaw), sllaw⟩)
    (claw : PySem.W.codeIn K cdlaw "law" = true)
    (klaw : PySem.W.keepIn K (.ref flaw) = true)
    (oCWalk : PySem.W.nsIn K mainGlobals "Walk" = some (some (.ref CWalk)))
    (pgWalk : PySem.W.plainGet K CWalk Str.empty = true)
    (hdWalk : PySem.W.hasDictIn K CWalk = true)
    (poWalk : PySem.W.plainOver K CWalk = true)
    (saWalk : PySem.W.findIn K (.ref CWalk) "__setattr__" = some (some (.builtin "object.__setattr__")))
    (mkWalk : PySem.W.makesIn K CWalk = true)
    (kcWalk : PySem.W.keepIn K (.ref CWalk) = true)
    (na_passed_Walk : PySem.W.findIn K (.ref CWalk) "passed" = some none)
    (fainit : PySem.W.findIn K (.ref CWalk) "__init__" = some (some (.ref finit)))
    (fiinit : PySem.W.isFn K (.ref finit) = true)
    (linit : K.lookup finit = some ⟨ocinit, odinit, .func (PySem.W.fnOf "__init__" "Walk.__init__" (defArgs s_init) (defBody s_init) (defScope s_init) .none kVinit dcinit pminit aninit cdinit ctinit), slinit⟩)
    (cinit : PySem.W.codeIn K cdinit "Walk.__init__" = true)
    (kinit : PySem.W.keepIn K (.ref finit) = true)
    (fais_body : PySem.W.findIn K (.ref CWalk) "is_body" = some (some (.ref fis_body)))
    (fiis_body : PySem.W.isFn K (.ref fis_body) = true)
    (lis_body : K.lookup fis_body = some ⟨ocis_body, odis_body, .func (PySem.W.fnOf "is_body" "Walk.is_body" (defArgs s_is_body) (defBody s_is_body) (defScope s_is_body) .none kVis_body dcis_body pmis_body anis_body cdis_body ctis_body), slis_body⟩)
    (cis_body : PySem.W.codeIn K cdis_body "Walk.is_body" = true)
    (kis_body : PySem.W.keepIn K (.ref fis_body) = true)
    (fais_statement : PySem.W.findIn K (.ref CWalk) "is_statement" = some (some (.ref fis_statement)))
    (fiis_statement : PySem.W.isFn K (.ref fis_statement) = true)
    (lis_statement : K.lookup fis_statement = some ⟨ocis_statement, odis_statement, .func (PySem.W.fnOf "is_statement" "Walk.is_statement" (defArgs s_is_statement) (defBody s_is_statement) (defScope s_is_statement) .none kVis_statement dcis_statement pmis_statement anis_statement cdis_statement ctis_statement), slis_statement⟩)
    (cis_statement : PySem.W.codeIn K cdis_statement "Walk.is_statement" = true)
    (kis_statement : PySem.W.keepIn K (.ref fis_statement) = true)
    (aCDrawloomError : PySem.W.nsIn K mainGlobals "DrawloomError" = some (some (.ref CDrawloomError)))
    (xCDrawloomError : PySem.W.excIn K CDrawloomError [.type "ValueError", .type "Exception", .type "BaseException", .type "object"] "ValueError.__new__" = true)
    (kCDrawloomError : PySem.W.keepIn K (.ref CDrawloomError) = true)
    (bCDrawloomError : PySem.W.subIn K (.ref CDrawloomError) (.type "BaseException") = some true)
    (tCDrawloomError : PySem.W.typeIn K (.ref CDrawloomError) = some (.type "type"))
    (dCDrawloomError : PySem.W.hasDictIn K CDrawloomError = true)
    (mCDrawloomError : PySem.W.subIn K (.ref CDrawloomError) (.ref CDrawloomError) = some true)
    (e1DrawloomError : PySem.W.findIn K (.ref CDrawloomError) "__getattribute__" = some (some (.builtin "BaseException.__getattribute__")))
    (e2DrawloomError : PySem.W.findIn K (.ref CDrawloomError) "__getattr__" = some none)
    (e5DrawloomError : PySem.W.findIn K (.ref CDrawloomError) "__class__" = some (some (.builtin "object.__class__")))
    (e6DrawloomError : PySem.W.specialIn K (.builtin "object.__class__") "__get__" = some (some (.builtin "getset_descriptor.__get__")))
    (e7DrawloomError : PySem.W.takesIn K (.builtin "object.__class__") = some true)
    (e8DrawloomError : PySem.W.mroIn K CDrawloomError (.type "object") = some true)
    (vDrawloomError : PySem.W.kitOne K (.ref CDrawloomError) (.type "ValueError") = some true)
    (aCBadKernel : PySem.W.nsIn K mainGlobals "BadKernel" = some (some (.ref CBadKernel)))
    (xCBadKernel : PySem.W.excIn K CBadKernel [.type "ValueError", .type "Exception", .type "BaseException", .type "object"] "ValueError.__new__" = true)
    (kCBadKernel : PySem.W.keepIn K (.ref CBadKernel) = true)
    (bCBadKernel : PySem.W.subIn K (.ref CBadKernel) (.type "BaseException") = some true)
    (tCBadKernel : PySem.W.typeIn K (.ref CBadKernel) = some (.type "type"))
    (dCBadKernel : PySem.W.hasDictIn K CBadKernel = true)
    (mCBadKernel : PySem.W.subIn K (.ref CBadKernel) (.ref CBadKernel) = some true)
    (e1BadKernel : PySem.W.findIn K (.ref CBadKernel) "__getattribute__" = some (some (.builtin "BaseException.__getattribute__")))
    (e2BadKernel : PySem.W.findIn K (.ref CBadKernel) "__getattr__" = some none)
    (e5BadKernel : PySem.W.findIn K (.ref CBadKernel) "__class__" = some (some (.builtin "object.__class__")))
    (e6BadKernel : PySem.W.specialIn K (.builtin "object.__class__") "__get__" = some (some (.builtin "getset_descriptor.__get__")))
    (e7BadKernel : PySem.W.takesIn K (.builtin "object.__class__") = some true)
    (e8BadKernel : PySem.W.mroIn K CBadKernel (.type "object") = some true)
    (vBadKernel : PySem.W.kitOne K (.ref CBadKernel) (.type "ValueError") = some true)
    (kkBadKernelDrawloomError : PySem.W.kitOne K (.ref CBadKernel) (.ref CDrawloomError) = some true)
    (zabs : PySem.W.nsIn K mainGlobals "abs" = some none)
    (zall : PySem.W.nsIn K mainGlobals "all" = some none)
    (zbool : PySem.W.nsIn K mainGlobals "bool" = some none)
    (zdict : PySem.W.nsIn K mainGlobals "dict" = some none)
    (zint : PySem.W.nsIn K mainGlobals "int" = some none)
    (zisinstance : PySem.W.nsIn K mainGlobals "isinstance" = some none)
    (zlen : PySem.W.nsIn K mainGlobals "len" = some none)
    (zlist : PySem.W.nsIn K mainGlobals "list" = some none)
    (zrange : PySem.W.nsIn K mainGlobals "range" = some none)
    (zset : PySem.W.nsIn K mainGlobals "set" = some none)
    (zstr : PySem.W.nsIn K mainGlobals "str" = some none)
    (ztuple : PySem.W.nsIn K mainGlobals "tuple" = some none)
    (zzip : PySem.W.nsIn K mainGlobals "zip" = some none)
    (iLEAST : PySem.W.nsIn K mainGlobals "LEAST" = some (some (.int (-2147483648) tLEAST)))
    (iGREATEST : PySem.W.nsIn K mainGlobals "GREATEST" = some (some (.int (2147483647) tGREATEST)))
    (iMOST_LETTERS : PySem.W.nsIn K mainGlobals "MOST_LETTERS" = some (some (.int (12) tMOST_LETTERS)))
    (iMOST_PARAMS : PySem.W.nsIn K mainGlobals "MOST_PARAMS" = some (some (.int (6) tMOST_PARAMS)))
    (iMOST_SHARED : PySem.W.nsIn K mainGlobals "MOST_SHARED" = some (some (.int (3) tMOST_SHARED)))
    (iMOST_SHARED_CELLS : PySem.W.nsIn K mainGlobals "MOST_SHARED_CELLS" = some (some (.int (16) tMOST_SHARED_CELLS)))
    (iDEEPEST_BODY : PySem.W.nsIn K mainGlobals "DEEPEST_BODY" = some (some (.int (10) tDEEPEST_BODY)))
    (iDEEPEST_EXPRESSION : PySem.W.nsIn K mainGlobals "DEEPEST_EXPRESSION" = some (some (.int (10) tDEEPEST_EXPRESSION)))
    (iMOST_STATEMENTS : PySem.W.nsIn K mainGlobals "MOST_STATEMENTS" = some (some (.int (100) tMOST_STATEMENTS)))
    (iLETTERS : PySem.W.nsIn K mainGlobals "LETTERS" = some (some (.str "abcdefghijklmnopqrstuvwxyz" tLETTERS)))
    (iDIGITS : PySem.W.nsIn K mainGlobals "DIGITS" = some (some (.str "0123456789" tDIGITS)))
    (aSPECIALS : PySem.W.nsIn K mainGlobals "SPECIALS" = some (some (.ref pSPECIALS)))
    (lSPECIALS : K.lookup pSPECIALS = some ⟨.type "tuple", odSPECIALS, .seq itsSPECIALS nSPECIALS, slSPECIALS⟩)
    (mSPECIALS : itsSPECIALS.size ≤ sizeLine)
    (vSPECIALS : Vals ([.str "tid", .str "bid", .str "dim", .str "grid"]) itsSPECIALS.toList)
    (aUNARY : PySem.W.nsIn K mainGlobals "UNARY" = some (some (.ref pUNARY)))
    (lUNARY : K.lookup pUNARY = some ⟨.type "tuple", odUNARY, .seq itsUNARY nUNARY, slUNARY⟩)
    (mUNARY : itsUNARY.size ≤ sizeLine)
    (vUNARY : Vals ([.str "neg", .str "not", .str "zero"]) itsUNARY.toList)
    (aFOLDING : PySem.W.nsIn K mainGlobals "FOLDING" = some (some (.ref pFOLDING)))
    (lFOLDING : K.lookup pFOLDING = some ⟨.type "tuple", odFOLDING, .seq itsFOLDING nFOLDING, slFOLDING⟩)
    (mFOLDING : itsFOLDING.size ≤ sizeLine)
    (vFOLDING : Vals ([.str "add", .str "min", .str "max", .str "and", .str "or", .str "xor"]) itsFOLDING.toList)
    (aBINARY : PySem.W.nsIn K mainGlobals "BINARY" = some (some (.ref pBINARY)))
    (lBINARY : K.lookup pBINARY = some ⟨.type "tuple", odBINARY, .seq itsBINARY nBINARY, slBINARY⟩)
    (mBINARY : itsBINARY.size ≤ sizeLine)
    (vBINARY : Vals ([.str "add", .str "sub", .str "mul", .str "div", .str "rem", .str "and", .str "or", .str "xor", .str "shl", .str "shr", .str "lt", .str "le", .str "eq", .str "ne", .str "min", .str "max"]) itsBINARY.toList)
    (aEXPRESSION_PARTS : PySem.W.nsIn K mainGlobals "EXPRESSION_PARTS" = some (some (.ref pEXPRESSION_PARTS)))
    (lEXPRESSION_PARTS : K.lookup pEXPRESSION_PARTS = some ⟨.type "dict", none, .dict esEXPRESSION_PARTS nEXPRESSION_PARTS, #[]⟩)
    (vEXPRESSION_PARTS : PySem.W.KeysLit w.params esEXPRESSION_PARTS.toList)
    (sEXPRESSION_PARTS : (pEXPRESSION_PARTS == sysModules) = false)
    (rEXPRESSION_PARTS : KRows esEXPRESSION_PARTS.toList [("word", .ref qEXPRESSION_PARTS_0), ("name", .ref qEXPRESSION_PARTS_1), ("special", .ref qEXPRESSION_PARTS_2), ("unary", .ref qEXPRESSION_PARTS_3), ("binary", .ref qEXPRESSION_PARTS_4), ("pick", .ref qEXPRESSION_PARTS_5), ("load", .ref qEXPRESSION_PARTS_6)])
    (lEXPRESSION_PARTS_0 : K.lookup qEXPRESSION_PARTS_0 = some ⟨.type "tuple", odEXPRESSION_PARTS_0, .seq itsEXPRESSION_PARTS_0 nEXPRESSION_PARTS_0, slEXPRESSION_PARTS_0⟩)
    (mEXPRESSION_PARTS_0 : itsEXPRESSION_PARTS_0.size ≤ sizeLine)
    (vEXPRESSION_PARTS_0 : Vals [.str "word"] itsEXPRESSION_PARTS_0.toList)
    (lEXPRESSION_PARTS_1 : K.lookup qEXPRESSION_PARTS_1 = some ⟨.type "tuple", odEXPRESSION_PARTS_1, .seq itsEXPRESSION_PARTS_1 nEXPRESSION_PARTS_1, slEXPRESSION_PARTS_1⟩)
    (mEXPRESSION_PARTS_1 : itsEXPRESSION_PARTS_1.size ≤ sizeLine)
    (vEXPRESSION_PARTS_1 : Vals [.str "int"] itsEXPRESSION_PARTS_1.toList)
    (lEXPRESSION_PARTS_2 : K.lookup qEXPRESSION_PARTS_2 = some ⟨.type "tuple", odEXPRESSION_PARTS_2, .seq itsEXPRESSION_PARTS_2 nEXPRESSION_PARTS_2, slEXPRESSION_PARTS_2⟩)
    (mEXPRESSION_PARTS_2 : itsEXPRESSION_PARTS_2.size ≤ sizeLine)
    (vEXPRESSION_PARTS_2 : Vals [.str "special"] itsEXPRESSION_PARTS_2.toList)
    (lEXPRESSION_PARTS_3 : K.lookup qEXPRESSION_PARTS_3 = some ⟨.type "tuple", odEXPRESSION_PARTS_3, .seq itsEXPRESSION_PARTS_3 nEXPRESSION_PARTS_3, slEXPRESSION_PARTS_3⟩)
    (mEXPRESSION_PARTS_3 : itsEXPRESSION_PARTS_3.size ≤ sizeLine)
    (vEXPRESSION_PARTS_3 : Vals [.str "unary", .str "expression"] itsEXPRESSION_PARTS_3.toList)
    (lEXPRESSION_PARTS_4 : K.lookup qEXPRESSION_PARTS_4 = some ⟨.type "tuple", odEXPRESSION_PARTS_4, .seq itsEXPRESSION_PARTS_4 nEXPRESSION_PARTS_4, slEXPRESSION_PARTS_4⟩)
    (mEXPRESSION_PARTS_4 : itsEXPRESSION_PARTS_4.size ≤ sizeLine)
    (vEXPRESSION_PARTS_4 : Vals [.str "binary", .str "expression", .str "expression"] itsEXPRESSION_PARTS_4.toList)
    (lEXPRESSION_PARTS_5 : K.lookup qEXPRESSION_PARTS_5 = some ⟨.type "tuple", odEXPRESSION_PARTS_5, .seq itsEXPRESSION_PARTS_5 nEXPRESSION_PARTS_5, slEXPRESSION_PARTS_5⟩)
    (mEXPRESSION_PARTS_5 : itsEXPRESSION_PARTS_5.size ≤ sizeLine)
    (vEXPRESSION_PARTS_5 : Vals [.str "expression", .str "expression", .str "expression"] itsEXPRESSION_PARTS_5.toList)
    (lEXPRESSION_PARTS_6 : K.lookup qEXPRESSION_PARTS_6 = some ⟨.type "tuple", odEXPRESSION_PARTS_6, .seq itsEXPRESSION_PARTS_6 nEXPRESSION_PARTS_6, slEXPRESSION_PARTS_6⟩)
    (mEXPRESSION_PARTS_6 : itsEXPRESSION_PARTS_6.size ≤ sizeLine)
    (vEXPRESSION_PARTS_6 : Vals [.str "array", .str "expression"] itsEXPRESSION_PARTS_6.toList)
    (aSTATEMENT_PARTS : PySem.W.nsIn K mainGlobals "STATEMENT_PARTS" = some (some (.ref pSTATEMENT_PARTS)))
    (lSTATEMENT_PARTS : K.lookup pSTATEMENT_PARTS = some ⟨.type "dict", none, .dict esSTATEMENT_PARTS nSTATEMENT_PARTS, #[]⟩)
    (vSTATEMENT_PARTS : PySem.W.KeysLit w.params esSTATEMENT_PARTS.toList)
    (sSTATEMENT_PARTS : (pSTATEMENT_PARTS == sysModules) = false)
    (rSTATEMENT_PARTS : KRows esSTATEMENT_PARTS.toList [("let", .ref qSTATEMENT_PARTS_0), ("set", .ref qSTATEMENT_PARTS_1), ("put", .ref qSTATEMENT_PARTS_2), ("atomic", .ref qSTATEMENT_PARTS_3), ("if", .ref qSTATEMENT_PARTS_4), ("while", .ref qSTATEMENT_PARTS_5), ("break", .ref qSTATEMENT_PARTS_6), ("continue", .ref qSTATEMENT_PARTS_7), ("return", .ref qSTATEMENT_PARTS_8), ("barrier", .ref qSTATEMENT_PARTS_9), ("collect", .ref qSTATEMENT_PARTS_10)])
    (lSTATEMENT_PARTS_0 : K.lookup qSTATEMENT_PARTS_0 = some ⟨.type "tuple", odSTATEMENT_PARTS_0, .seq itsSTATEMENT_PARTS_0 nSTATEMENT_PARTS_0, slSTATEMENT_PARTS_0⟩)
    (mSTATEMENT_PARTS_0 : itsSTATEMENT_PARTS_0.size ≤ sizeLine)
    (vSTATEMENT_PARTS_0 : Vals [.str "new", .str "expression"] itsSTATEMENT_PARTS_0.toList)
    (lSTATEMENT_PARTS_1 : K.lookup qSTATEMENT_PARTS_1 = some ⟨.type "tuple", odSTATEMENT_PARTS_1, .seq itsSTATEMENT_PARTS_1 nSTATEMENT_PARTS_1, slSTATEMENT_PARTS_1⟩)
    (mSTATEMENT_PARTS_1 : itsSTATEMENT_PARTS_1.size ≤ sizeLine)
    (vSTATEMENT_PARTS_1 : Vals [.str "int", .str "expression"] itsSTATEMENT_PARTS_1.toList)
    (lSTATEMENT_PARTS_2 : K.lookup qSTATEMENT_PARTS_2 = some ⟨.type "tuple", odSTATEMENT_PARTS_2, .seq itsSTATEMENT_PARTS_2 nSTATEMENT_PARTS_2, slSTATEMENT_PARTS_2⟩)
    (mSTATEMENT_PARTS_2 : itsSTATEMENT_PARTS_2.size ≤ sizeLine)
    (vSTATEMENT_PARTS_2 : Vals [.str "array", .str "expression", .str "expression"] itsSTATEMENT_PARTS_2.toList)
    (lSTATEMENT_PARTS_3 : K.lookup qSTATEMENT_PARTS_3 = some ⟨.type "tuple", odSTATEMENT_PARTS_3, .seq itsSTATEMENT_PARTS_3 nSTATEMENT_PARTS_3, slSTATEMENT_PARTS_3⟩)
    (mSTATEMENT_PARTS_3 : itsSTATEMENT_PARTS_3.size ≤ sizeLine)
    (vSTATEMENT_PARTS_3 : Vals [.str "folding", .str "array", .str "expression", .str "expression"] itsSTATEMENT_PARTS_3.toList)
    (lSTATEMENT_PARTS_4 : K.lookup qSTATEMENT_PARTS_4 = some ⟨.type "tuple", odSTATEMENT_PARTS_4, .seq itsSTATEMENT_PARTS_4 nSTATEMENT_PARTS_4, slSTATEMENT_PARTS_4⟩)
    (mSTATEMENT_PARTS_4 : itsSTATEMENT_PARTS_4.size ≤ sizeLine)
    (vSTATEMENT_PARTS_4 : Vals [.str "expression", .str "body", .str "body"] itsSTATEMENT_PARTS_4.toList)
    (lSTATEMENT_PARTS_5 : K.lookup qSTATEMENT_PARTS_5 = some ⟨.type "tuple", odSTATEMENT_PARTS_5, .seq itsSTATEMENT_PARTS_5 nSTATEMENT_PARTS_5, slSTATEMENT_PARTS_5⟩)
    (mSTATEMENT_PARTS_5 : itsSTATEMENT_PARTS_5.size ≤ sizeLine)
    (vSTATEMENT_PARTS_5 : Vals [.str "expression", .str "body"] itsSTATEMENT_PARTS_5.toList)
    (lSTATEMENT_PARTS_6 : K.lookup qSTATEMENT_PARTS_6 = some ⟨.type "tuple", odSTATEMENT_PARTS_6, .seq itsSTATEMENT_PARTS_6 nSTATEMENT_PARTS_6, slSTATEMENT_PARTS_6⟩)
    (mSTATEMENT_PARTS_6 : itsSTATEMENT_PARTS_6.size ≤ sizeLine)
    (vSTATEMENT_PARTS_6 : Vals [] itsSTATEMENT_PARTS_6.toList)
    (lSTATEMENT_PARTS_7 : K.lookup qSTATEMENT_PARTS_7 = some ⟨.type "tuple", odSTATEMENT_PARTS_7, .seq itsSTATEMENT_PARTS_7 nSTATEMENT_PARTS_7, slSTATEMENT_PARTS_7⟩)
    (mSTATEMENT_PARTS_7 : itsSTATEMENT_PARTS_7.size ≤ sizeLine)
    (vSTATEMENT_PARTS_7 : Vals [] itsSTATEMENT_PARTS_7.toList)
    (lSTATEMENT_PARTS_8 : K.lookup qSTATEMENT_PARTS_8 = some ⟨.type "tuple", odSTATEMENT_PARTS_8, .seq itsSTATEMENT_PARTS_8 nSTATEMENT_PARTS_8, slSTATEMENT_PARTS_8⟩)
    (mSTATEMENT_PARTS_8 : itsSTATEMENT_PARTS_8.size ≤ sizeLine)
    (vSTATEMENT_PARTS_8 : Vals [] itsSTATEMENT_PARTS_8.toList)
    (lSTATEMENT_PARTS_9 : K.lookup qSTATEMENT_PARTS_9 = some ⟨.type "tuple", odSTATEMENT_PARTS_9, .seq itsSTATEMENT_PARTS_9 nSTATEMENT_PARTS_9, slSTATEMENT_PARTS_9⟩)
    (mSTATEMENT_PARTS_9 : itsSTATEMENT_PARTS_9.size ≤ sizeLine)
    (vSTATEMENT_PARTS_9 : Vals [] itsSTATEMENT_PARTS_9.toList)
    (lSTATEMENT_PARTS_10 : K.lookup qSTATEMENT_PARTS_10 = some ⟨.type "tuple", odSTATEMENT_PARTS_10, .seq itsSTATEMENT_PARTS_10 nSTATEMENT_PARTS_10, slSTATEMENT_PARTS_10⟩)
    (mSTATEMENT_PARTS_10 : itsSTATEMENT_PARTS_10.size ≤ sizeLine)
    (vSTATEMENT_PARTS_10 : Vals [.str "new", .str "folding", .str "expression"] itsSTATEMENT_PARTS_10.toList) :
    ∃ fd : FuncData, (∀ (s : Shared) (v : Value), BindsTo s fd ⟨[v], []⟩ [("script", v)]) ∧ ∀ base : Heap, K.In base → base.Ns mainGlobals mg → FnOk l.prog w K mg base CX0 80 fa fd ["script"] (sp_law K) := by
  have e := hfa.symm.trans (PySem.W.mg_of X G alaw)
  cases e
  let T : Tx w K mg := {
    a_is_between := fis_between,
    d_is_between := _,
    F_is_between := fun_mk (st := s_is_between) lis_between cis_between kis_between,
    b_is_between := (fun_mk (st := s_is_between) lis_between cis_between kis_between).binds (ps := ["value", "least", "most"]) fun _ _ _ _ _ _ us hl => match us, hl with | [_, _, _], _ => rfl,
    g_is_between := PySem.W.mg_of X G ais_between,
    a_is_word := fis_word,
    d_is_word := _,
    F_is_word := fun_mk (st := s_is_word) lis_word cis_word kis_word,
    b_is_word := (fun_mk (st := s_is_word) lis_word cis_word kis_word).binds (ps := ["value"]) fun _ _ _ _ _ _ us hl => match us, hl with | [_], _ => rfl,
    g_is_word := PySem.W.mg_of X G ais_word,
    a_is_tuple := fis_tuple,
    d_is_tuple := _,
    F_is_tuple := fun_mk (st := s_is_tuple) lis_tuple cis_tuple kis_tuple,
    b_is_tuple := (fun_mk (st := s_is_tuple) lis_tuple cis_tuple kis_tuple).binds (ps := ["value", "least", "most"]) fun _ _ _ _ _ _ us hl => match us, hl with | [_, _, _], _ => rfl,
    g_is_tuple := PySem.W.mg_of X G ais_tuple,
    a_is_name := fis_name,
    d_is_name := _,
    F_is_name := fun_mk (st := s_is_name) lis_name cis_name kis_name,
    b_is_name := (fun_mk (st := s_is_name) lis_name cis_name kis_name).binds (ps := ["value"]) fun _ _ _ _ _ _ us hl => match us, hl with | [_], _ => rfl,
    g_is_name := PySem.W.mg_of X G ais_name,
    a_is_param := fis_param,
    d_is_param := _,
    F_is_param := fun_mk (st := s_is_param) lis_param cis_param kis_param,
    b_is_param := (fun_mk (st := s_is_param) lis_param cis_param kis_param).binds (ps := ["value"]) fun _ _ _ _ _ _ us hl => match us, hl with | [_], _ => rfl,
    g_is_param := PySem.W.mg_of X G ais_param,
    a_is_shared_array := fis_shared_array,
    d_is_shared_array := _,
    F_is_shared_array := fun_mk (st := s_is_shared_array) lis_shared_array cis_shared_array kis_shared_array,
    b_is_shared_array := (fun_mk (st := s_is_shared_array) lis_shared_array cis_shared_array kis_shared_array).binds (ps := ["value"]) fun _ _ _ _ _ _ us hl => match us, hl with | [_], _ => rfl,
    g_is_shared_array := PySem.W.mg_of X G ais_shared_array,
    a_is_head := fis_head,
    d_is_head := _,
    F_is_head := fun_mk (st := s_is_head) lis_head cis_head kis_head,
    b_is_head := (fun_mk (st := s_is_head) lis_head cis_head kis_head).binds (ps := ["params", "shared"]) fun _ _ _ _ _ _ us hl => match us, hl with | [_, _], _ => rfl,
    g_is_head := PySem.W.mg_of X G ais_head,
    a_known_at_first := fknown_at_first,
    d_known_at_first := _,
    F_known_at_first := fun_mk (st := s_known_at_first) lknown_at_first cknown_at_first kknown_at_first,
    b_known_at_first := (fun_mk (st := s_known_at_first) lknown_at_first cknown_at_first kknown_at_first).binds (ps := ["params", "shared"]) fun _ _ _ _ _ _ us hl => match us, hl with | [_, _], _ => rfl,
    g_known_at_first := PySem.W.mg_of X G aknown_at_first,
    a_first_word := ffirst_word,
    d_first_word := _,
    F_first_word := fun_mk (st := s_first_word) lfirst_word cfirst_word kfirst_word,
    b_first_word := (fun_mk (st := s_first_word) lfirst_word cfirst_word kfirst_word).binds (ps := ["value"]) fun _ _ _ _ _ _ us hl => match us, hl with | [_], _ => rfl,
    g_first_word := PySem.W.mg_of X G afirst_word,
    a_is_choice := fis_choice,
    d_is_choice := _,
    F_is_choice := fun_mk (st := s_is_choice) lis_choice cis_choice kis_choice,
    b_is_choice := (fun_mk (st := s_is_choice) lis_choice cis_choice kis_choice).binds (ps := ["sort", "value"]) fun _ _ _ _ _ _ us hl => match us, hl with | [_, _], _ => rfl,
    g_is_choice := PySem.W.mg_of X G ais_choice,
    a_is_part := fis_part,
    d_is_part := _,
    F_is_part := fun_mk (st := s_is_part) lis_part cis_part kis_part,
    b_is_part := (fun_mk (st := s_is_part) lis_part cis_part kis_part).binds (ps := ["sort", "value", "known", "depth"]) fun _ _ _ _ _ _ us hl => match us, hl with | [_, _, _, _], _ => rfl,
    g_is_part := PySem.W.mg_of X G ais_part,
    a_is_expression := fis_expression,
    d_is_expression := _,
    F_is_expression := fun_mk (st := s_is_expression) lis_expression cis_expression kis_expression,
    b_is_expression := (fun_mk (st := s_is_expression) lis_expression cis_expression kis_expression).binds (ps := ["value", "known", "depth"]) fun _ _ _ _ _ _ us hl => match us, hl with | [_, _, _], _ => rfl,
    g_is_expression := PySem.W.mg_of X G ais_expression,
    a_is_kernel := fis_kernel,
    d_is_kernel := _,
    F_is_kernel := fun_mk (st := s_is_kernel) lis_kernel cis_kernel kis_kernel,
    b_is_kernel := (fun_mk (st := s_is_kernel) lis_kernel cis_kernel kis_kernel).binds (ps := ["value"]) fun _ _ _ _ _ _ us hl => match us, hl with | [_], _ => rfl,
    g_is_kernel := PySem.W.mg_of X G ais_kernel,
    a_check_kernel := fcheck_kernel,
    d_check_kernel := _,
    F_check_kernel := fun_mk (st := s_check_kernel) lcheck_kernel ccheck_kernel kcheck_kernel,
    b_check_kernel := (fun_mk (st := s_check_kernel) lcheck_kernel ccheck_kernel kcheck_kernel).binds (ps := ["value"]) fun _ _ _ _ _ _ us hl => match us, hl with | [_], _ => rfl,
    g_check_kernel := PySem.W.mg_of X G acheck_kernel,
    a_bodies := fbodies,
    d_bodies := _,
    F_bodies := fun_mk (st := s_bodies) lbodies cbodies kbodies,
    b_bodies := (fun_mk (st := s_bodies) lbodies cbodies kbodies).binds (ps := ["statement"]) fun _ _ _ _ _ _ us hl => match us, hl with | [_], _ => rfl,
    g_bodies := PySem.W.mg_of X G abodies,
    a_statements_in := fstatements_in,
    d_statements_in := _,
    F_statements_in := fun_mk (st := s_statements_in) lstatements_in cstatements_in kstatements_in,
    b_statements_in := (fun_mk (st := s_statements_in) lstatements_in cstatements_in kstatements_in).binds (ps := ["body"]) fun _ _ _ _ _ _ us hl => match us, hl with | [_], _ => rfl,
    g_statements_in := PySem.W.mg_of X G astatements_in,
    a_statements := fstatements,
    d_statements := _,
    F_statements := fun_mk (st := s_statements) lstatements cstatements kstatements,
    b_statements := (fun_mk (st := s_statements) lstatements cstatements kstatements).binds (ps := ["kernel"]) fun _ _ _ _ _ _ us hl => match us, hl with | [_], _ => rfl,
    g_statements := PySem.W.mg_of X G astatements,
    a_law_stream := flaw_stream,
    d_law_stream := _,
    F_law_stream := fun_mk (st := s_law_stream) llaw_stream claw_stream klaw_stream,
    b_law_stream := (fun_mk (st := s_law_stream) llaw_stream claw_stream klaw_stream).binds (ps := ["script"]) fun _ _ _ _ _ _ us hl => match us, hl with | [_], _ => rfl,
    g_law_stream := PySem.W.mg_of X G alaw_stream,
    a_law_draw := flaw_draw,
    d_law_draw := _,
    F_law_draw := fun_mk (st := s_law_draw) llaw_draw claw_draw klaw_draw,
    b_law_draw := (fun_mk (st := s_law_draw) llaw_draw claw_draw klaw_draw).binds (ps := ["stream", "many"]) fun _ _ _ _ _ _ us hl => match us, hl with | [_, _], _ => rfl,
    g_law_draw := PySem.W.mg_of X G alaw_draw,
    a_law_given := flaw_given,
    d_law_given := _,
    F_law_given := fun_mk (st := s_law_given) llaw_given claw_given klaw_given,
    b_law_given := (fun_mk (st := s_law_given) llaw_given claw_given klaw_given).binds (ps := ["told"]) fun _ _ _ _ _ _ us hl => match us, hl with | [_], _ => rfl,
    g_law_given := PySem.W.mg_of X G alaw_given,
    a_law_told := flaw_told,
    d_law_told := _,
    F_law_told := fun_mk (st := s_law_told) llaw_told claw_told klaw_told,
    b_law_told := (fun_mk (st := s_law_told) llaw_told claw_told klaw_told).binds (ps := ["value"]) fun _ _ _ _ _ _ us hl => match us, hl with | [_], _ => rfl,
    g_law_told := PySem.W.mg_of X G alaw_told,
    a_law_case := flaw_case,
    d_law_case := _,
    F_law_case := fun_mk (st := s_law_case) llaw_case claw_case klaw_case,
    b_law_case := (fun_mk (st := s_law_case) llaw_case claw_case klaw_case).binds (ps := ["stream"]) fun _ _ _ _ _ _ us hl => match us, hl with | [_], _ => rfl,
    g_law_case := PySem.W.mg_of X G alaw_case,
    a_law := fa,
    d_law := _,
    F_law := fun_mk (st := s_law) llaw claw klaw,
    g_law := PySem.W.mg_of X G alaw,
    c_Walk := CWalk,
    g_Walk := PySem.W.mg_of X G oCWalk,
    cl_Walk := ⟨pgWalk, hdWalk, poWalk, saWalk⟩,
    n_Walk_passed := na_passed_Walk,
    a_init := finit,
    d_init := _,
    F_init := fun_mk (st := s_init) linit cinit kinit,
    b_init := (fun_mk (st := s_init) linit cinit kinit).binds (ps := ["self"]) fun _ _ _ _ _ _ us hl => match us, hl with | [_], _ => rfl,
    mk_Walk := ⟨mkWalk, fainit, fiinit, kcWalk⟩,
    a_is_body := fis_body,
    d_is_body := _,
    F_is_body := fun_mk (st := s_is_body) lis_body cis_body kis_body,
    b_is_body := (fun_mk (st := s_is_body) lis_body cis_body kis_body).binds (ps := ["self", "value", "known", "depth", "looped"]) fun _ _ _ _ _ _ us hl => match us, hl with | [_, _, _, _, _], _ => rfl,
    m_is_body := ⟨fais_body, fiis_body, kis_body⟩,
    a_is_statement := fis_statement,
    d_is_statement := _,
    F_is_statement := fun_mk (st := s_is_statement) lis_statement cis_statement kis_statement,
    b_is_statement := (fun_mk (st := s_is_statement) lis_statement cis_statement kis_statement).binds (ps := ["self", "value", "known", "depth", "looped"]) fun _ _ _ _ _ _ us hl => match us, hl with | [_, _, _, _, _], _ => rfl,
    m_is_statement := ⟨fais_statement, fiis_statement, kis_statement⟩,
    c_DrawloomError := CDrawloomError,
    g_DrawloomError := PySem.W.mg_of X G aCDrawloomError,
    x_DrawloomError := xCDrawloomError,
    k_DrawloomError := kCDrawloomError,
    bx_DrawloomError := bCDrawloomError,
    ty_DrawloomError := tCDrawloomError,
    hd_DrawloomError := dCDrawloomError,
    me_DrawloomError := mCDrawloomError,
    ec_DrawloomError := ⟨e1DrawloomError, e2DrawloomError, bCDrawloomError, dCDrawloomError, e5DrawloomError, e6DrawloomError, e7DrawloomError, e8DrawloomError⟩,
    kv_DrawloomError := vDrawloomError,
    c_BadKernel := CBadKernel,
    g_BadKernel := PySem.W.mg_of X G aCBadKernel,
    x_BadKernel := xCBadKernel,
    k_BadKernel := kCBadKernel,
    bx_BadKernel := bCBadKernel,
    ty_BadKernel := tCBadKernel,
    hd_BadKernel := dCBadKernel,
    me_BadKernel := mCBadKernel,
    ec_BadKernel := ⟨e1BadKernel, e2BadKernel, bCBadKernel, dCBadKernel, e5BadKernel, e6BadKernel, e7BadKernel, e8BadKernel⟩,
    kv_BadKernel := vBadKernel,
    kk_BadKernel_DrawloomError := kkBadKernelDrawloomError,
    z_abs := PySem.W.mg_none_of X G zabs,
    z_all := PySem.W.mg_none_of X G zall,
    z_bool := PySem.W.mg_none_of X G zbool,
    z_dict := PySem.W.mg_none_of X G zdict,
    z_int := PySem.W.mg_none_of X G zint,
    z_isinstance := PySem.W.mg_none_of X G zisinstance,
    z_len := PySem.W.mg_none_of X G zlen,
    z_list := PySem.W.mg_none_of X G zlist,
    z_range := PySem.W.mg_none_of X G zrange,
    z_set := PySem.W.mg_none_of X G zset,
    z_str := PySem.W.mg_none_of X G zstr,
    z_tuple := PySem.W.mg_none_of X G ztuple,
    z_zip := PySem.W.mg_none_of X G zzip,
    q_LEAST := ⟨_, PySem.W.mg_of X G iLEAST, ⟨_, rfl⟩⟩,
    q_GREATEST := ⟨_, PySem.W.mg_of X G iGREATEST, ⟨_, rfl⟩⟩,
    q_MOST_LETTERS := ⟨_, PySem.W.mg_of X G iMOST_LETTERS, ⟨_, rfl⟩⟩,
    q_MOST_PARAMS := ⟨_, PySem.W.mg_of X G iMOST_PARAMS, ⟨_, rfl⟩⟩,
    q_MOST_SHARED := ⟨_, PySem.W.mg_of X G iMOST_SHARED, ⟨_, rfl⟩⟩,
    q_MOST_SHARED_CELLS := ⟨_, PySem.W.mg_of X G iMOST_SHARED_CELLS, ⟨_, rfl⟩⟩,
    q_DEEPEST_BODY := ⟨_, PySem.W.mg_of X G iDEEPEST_BODY, ⟨_, rfl⟩⟩,
    q_DEEPEST_EXPRESSION := ⟨_, PySem.W.mg_of X G iDEEPEST_EXPRESSION, ⟨_, rfl⟩⟩,
    q_MOST_STATEMENTS := ⟨_, PySem.W.mg_of X G iMOST_STATEMENTS, ⟨_, rfl⟩⟩,
    q_LETTERS := ⟨_, PySem.W.mg_of X G iLETTERS, ⟨_, rfl⟩⟩,
    q_DIGITS := ⟨_, PySem.W.mg_of X G iDIGITS, ⟨_, rfl⟩⟩,
    a_SPECIALS := pSPECIALS,
    q_SPECIALS := ⟨_, PySem.W.mg_of X G aSPECIALS, rfl⟩,
    t_SPECIALS := ⟨_, itsSPECIALS, nSPECIALS, lSPECIALS, rfl, rfl, mSPECIALS, vSPECIALS⟩,
    a_UNARY := pUNARY,
    q_UNARY := ⟨_, PySem.W.mg_of X G aUNARY, rfl⟩,
    t_UNARY := ⟨_, itsUNARY, nUNARY, lUNARY, rfl, rfl, mUNARY, vUNARY⟩,
    a_FOLDING := pFOLDING,
    q_FOLDING := ⟨_, PySem.W.mg_of X G aFOLDING, rfl⟩,
    t_FOLDING := ⟨_, itsFOLDING, nFOLDING, lFOLDING, rfl, rfl, mFOLDING, vFOLDING⟩,
    a_BINARY := pBINARY,
    q_BINARY := ⟨_, PySem.W.mg_of X G aBINARY, rfl⟩,
    t_BINARY := ⟨_, itsBINARY, nBINARY, lBINARY, rfl, rfl, mBINARY, vBINARY⟩,
    a_EXPRESSION_PARTS := pEXPRESSION_PARTS,
    q_EXPRESSION_PARTS := ⟨_, PySem.W.mg_of X G aEXPRESSION_PARTS, rfl⟩,
    w_EXPRESSION_PARTS := ⟨esEXPRESSION_PARTS, nEXPRESSION_PARTS, lEXPRESSION_PARTS, vEXPRESSION_PARTS, sEXPRESSION_PARTS, rEXPRESSION_PARTS⟩,
    p_EXPRESSION_PARTS_0 := qEXPRESSION_PARTS_0,
    t_EXPRESSION_PARTS_0 := ⟨_, itsEXPRESSION_PARTS_0, nEXPRESSION_PARTS_0, lEXPRESSION_PARTS_0, rfl, rfl, mEXPRESSION_PARTS_0, vEXPRESSION_PARTS_0⟩,
    p_EXPRESSION_PARTS_1 := qEXPRESSION_PARTS_1,
    t_EXPRESSION_PARTS_1 := ⟨_, itsEXPRESSION_PARTS_1, nEXPRESSION_PARTS_1, lEXPRESSION_PARTS_1, rfl, rfl, mEXPRESSION_PARTS_1, vEXPRESSION_PARTS_1⟩,
    p_EXPRESSION_PARTS_2 := qEXPRESSION_PARTS_2,
    t_EXPRESSION_PARTS_2 := ⟨_, itsEXPRESSION_PARTS_2, nEXPRESSION_PARTS_2, lEXPRESSION_PARTS_2, rfl, rfl, mEXPRESSION_PARTS_2, vEXPRESSION_PARTS_2⟩,
    p_EXPRESSION_PARTS_3 := qEXPRESSION_PARTS_3,
    t_EXPRESSION_PARTS_3 := ⟨_, itsEXPRESSION_PARTS_3, nEXPRESSION_PARTS_3, lEXPRESSION_PARTS_3, rfl, rfl, mEXPRESSION_PARTS_3, vEXPRESSION_PARTS_3⟩,
    p_EXPRESSION_PARTS_4 := qEXPRESSION_PARTS_4,
    t_EXPRESSION_PARTS_4 := ⟨_, itsEXPRESSION_PARTS_4, nEXPRESSION_PARTS_4, lEXPRESSION_PARTS_4, rfl, rfl, mEXPRESSION_PARTS_4, vEXPRESSION_PARTS_4⟩,
    p_EXPRESSION_PARTS_5 := qEXPRESSION_PARTS_5,
    t_EXPRESSION_PARTS_5 := ⟨_, itsEXPRESSION_PARTS_5, nEXPRESSION_PARTS_5, lEXPRESSION_PARTS_5, rfl, rfl, mEXPRESSION_PARTS_5, vEXPRESSION_PARTS_5⟩,
    p_EXPRESSION_PARTS_6 := qEXPRESSION_PARTS_6,
    t_EXPRESSION_PARTS_6 := ⟨_, itsEXPRESSION_PARTS_6, nEXPRESSION_PARTS_6, lEXPRESSION_PARTS_6, rfl, rfl, mEXPRESSION_PARTS_6, vEXPRESSION_PARTS_6⟩,
    a_STATEMENT_PARTS := pSTATEMENT_PARTS,
    q_STATEMENT_PARTS := ⟨_, PySem.W.mg_of X G aSTATEMENT_PARTS, rfl⟩,
    w_STATEMENT_PARTS := ⟨esSTATEMENT_PARTS, nSTATEMENT_PARTS, lSTATEMENT_PARTS, vSTATEMENT_PARTS, sSTATEMENT_PARTS, rSTATEMENT_PARTS⟩,
    p_STATEMENT_PARTS_0 := qSTATEMENT_PARTS_0,
    t_STATEMENT_PARTS_0 := ⟨_, itsSTATEMENT_PARTS_0, nSTATEMENT_PARTS_0, lSTATEMENT_PARTS_0, rfl, rfl, mSTATEMENT_PARTS_0, vSTATEMENT_PARTS_0⟩,
    p_STATEMENT_PARTS_1 := qSTATEMENT_PARTS_1,
    t_STATEMENT_PARTS_1 := ⟨_, itsSTATEMENT_PARTS_1, nSTATEMENT_PARTS_1, lSTATEMENT_PARTS_1, rfl, rfl, mSTATEMENT_PARTS_1, vSTATEMENT_PARTS_1⟩,
    p_STATEMENT_PARTS_2 := qSTATEMENT_PARTS_2,
    t_STATEMENT_PARTS_2 := ⟨_, itsSTATEMENT_PARTS_2, nSTATEMENT_PARTS_2, lSTATEMENT_PARTS_2, rfl, rfl, mSTATEMENT_PARTS_2, vSTATEMENT_PARTS_2⟩,
    p_STATEMENT_PARTS_3 := qSTATEMENT_PARTS_3,
    t_STATEMENT_PARTS_3 := ⟨_, itsSTATEMENT_PARTS_3, nSTATEMENT_PARTS_3, lSTATEMENT_PARTS_3, rfl, rfl, mSTATEMENT_PARTS_3, vSTATEMENT_PARTS_3⟩,
    p_STATEMENT_PARTS_4 := qSTATEMENT_PARTS_4,
    t_STATEMENT_PARTS_4 := ⟨_, itsSTATEMENT_PARTS_4, nSTATEMENT_PARTS_4, lSTATEMENT_PARTS_4, rfl, rfl, mSTATEMENT_PARTS_4, vSTATEMENT_PARTS_4⟩,
    p_STATEMENT_PARTS_5 := qSTATEMENT_PARTS_5,
    t_STATEMENT_PARTS_5 := ⟨_, itsSTATEMENT_PARTS_5, nSTATEMENT_PARTS_5, lSTATEMENT_PARTS_5, rfl, rfl, mSTATEMENT_PARTS_5, vSTATEMENT_PARTS_5⟩,
    p_STATEMENT_PARTS_6 := qSTATEMENT_PARTS_6,
    t_STATEMENT_PARTS_6 := ⟨_, itsSTATEMENT_PARTS_6, nSTATEMENT_PARTS_6, lSTATEMENT_PARTS_6, rfl, rfl, mSTATEMENT_PARTS_6, vSTATEMENT_PARTS_6⟩,
    p_STATEMENT_PARTS_7 := qSTATEMENT_PARTS_7,
    t_STATEMENT_PARTS_7 := ⟨_, itsSTATEMENT_PARTS_7, nSTATEMENT_PARTS_7, lSTATEMENT_PARTS_7, rfl, rfl, mSTATEMENT_PARTS_7, vSTATEMENT_PARTS_7⟩,
    p_STATEMENT_PARTS_8 := qSTATEMENT_PARTS_8,
    t_STATEMENT_PARTS_8 := ⟨_, itsSTATEMENT_PARTS_8, nSTATEMENT_PARTS_8, lSTATEMENT_PARTS_8, rfl, rfl, mSTATEMENT_PARTS_8, vSTATEMENT_PARTS_8⟩,
    p_STATEMENT_PARTS_9 := qSTATEMENT_PARTS_9,
    t_STATEMENT_PARTS_9 := ⟨_, itsSTATEMENT_PARTS_9, nSTATEMENT_PARTS_9, lSTATEMENT_PARTS_9, rfl, rfl, mSTATEMENT_PARTS_9, vSTATEMENT_PARTS_9⟩,
    p_STATEMENT_PARTS_10 := qSTATEMENT_PARTS_10,
    t_STATEMENT_PARTS_10 := ⟨_, itsSTATEMENT_PARTS_10, nSTATEMENT_PARTS_10, lSTATEMENT_PARTS_10, rfl, rfl, mSTATEMENT_PARTS_10, vSTATEMENT_PARTS_10⟩ }
  exact ⟨_, fun s v => .of_eq rfl, fun base _ _ => ok_law T⟩
end D4
open PySem PySem.W PyProof.Rows
set_option maxRecDepth 100000 in
set_option maxHeartbeats 0 in
theorem PySem.Challenge.cw_drawloom_k04_bounds_of_kernels_holds : PySem.Challenge.rw_drawloom_k04_bounds_of_kernels.Holds := by
  w_on; o_law; k_head; (case hw => w_witness2)
  k_fill
  refine L2.walk_of (l := PySem.Challenge.rw_drawloom_k04_bounds_of_kernels) (n := 63) (k := 80) (x := "script") (CX := fun _ => L2.CX0) (sp := fun w => D4.sp_law _) rfl (by decide) rfl ⟨rfl, by decide, by decide⟩ (fun w h Y => PySem.W.kIn_of Y) ?F (fun _ _ a ns hl _ hS => ⟨a, ns, rfl, hS, hl, fun _ => rfl⟩) (fun _ _ _ _ _ h => h)
  case F =>
    intro w mg fa h KX G hmg
    refine' D4.all_mk KX G hmg ?ais_between ?lis_between ?cis_between ?kis_between ?ais_word ?lis_word ?cis_word ?kis_word ?ais_tuple ?lis_tuple ?cis_tuple ?kis_tuple ?ais_name ?lis_name ?cis_name ?kis_name ?ais_param ?lis_param ?cis_param ?kis_param ?ais_shared_array ?lis_shared_array ?cis_shared_array ?kis_shared_array ?ais_head ?lis_head ?cis_head ?kis_head ?aknown_at_first ?lknown_at_first ?cknown_at_first ?kknown_at_first ?afirst_word ?lfirst_word ?cfirst_word ?kfirst_word ?ais_choice ?lis_choice ?cis_choice ?kis_choice ?ais_part ?lis_part ?cis_part ?kis_part ?ais_expression ?lis_expression ?cis_expression ?kis_expression ?ais_kernel ?lis_kernel ?cis_kernel ?kis_kernel ?acheck_kernel ?lcheck_kernel ?ccheck_kernel ?kcheck_kernel ?abodies ?lbodies ?cbodies ?kbodies ?astatements_in ?lstatements_in ?cstatements_in ?kstatements_in ?astatements ?lstatements ?cstatements ?kstatements ?alaw_stream ?llaw_stream ?claw_stream ?klaw_stream ?alaw_draw ?llaw_draw ?claw_draw ?klaw_draw ?alaw_given ?llaw_given ?claw_given ?klaw_given ?alaw_told ?llaw_told ?claw_told ?klaw_told ?alaw_case ?llaw_case ?claw_case ?klaw_case ?alaw ?llaw ?claw ?klaw ?oCWalk ?pgWalk ?hdWalk ?poWalk ?saWalk ?mkWalk ?kcWalk ?na_passed_Walk ?fainit ?fiinit ?linit ?cinit ?kinit ?fais_body ?fiis_body ?lis_body ?cis_body ?kis_body ?fais_statement ?fiis_statement ?lis_statement ?cis_statement ?kis_statement ?aCDrawloomError ?xCDrawloomError ?kCDrawloomError ?bCDrawloomError ?tCDrawloomError ?dCDrawloomError ?mCDrawloomError ?e1DrawloomError ?e2DrawloomError ?e5DrawloomError ?e6DrawloomError ?e7DrawloomError ?e8DrawloomError ?vDrawloomError ?aCBadKernel ?xCBadKernel ?kCBadKernel ?bCBadKernel ?tCBadKernel ?dCBadKernel ?mCBadKernel ?e1BadKernel ?e2BadKernel ?e5BadKernel ?e6BadKernel ?e7BadKernel ?e8BadKernel ?vBadKernel ?kkBadKernelDrawloomError ?zabs ?zall ?zbool ?zdict ?zint ?zisinstance ?zlen ?zlist ?zrange ?zset ?zstr ?ztuple ?zzip ?iLEAST ?iGREATEST ?iMOST_LETTERS ?iMOST_PARAMS ?iMOST_SHARED ?iMOST_SHARED_CELLS ?iDEEPEST_BODY ?iDEEPEST_EXPRESSION ?iMOST_STATEMENTS ?iLETTERS ?iDIGITS ?aSPECIALS ?lSPECIALS ?mSPECIALS ?vSPECIALS ?aUNARY ?lUNARY ?mUNARY ?vUNARY ?aFOLDING ?lFOLDING ?mFOLDING ?vFOLDING ?aBINARY ?lBINARY ?mBINARY ?vBINARY ?aEXPRESSION_PARTS ?lEXPRESSION_PARTS ?vEXPRESSION_PARTS ?sEXPRESSION_PARTS ?rEXPRESSION_PARTS ?lEXPRESSION_PARTS_0 ?mEXPRESSION_PARTS_0 ?vEXPRESSION_PARTS_0 ?lEXPRESSION_PARTS_1 ?mEXPRESSION_PARTS_1 ?vEXPRESSION_PARTS_1 ?lEXPRESSION_PARTS_2 ?mEXPRESSION_PARTS_2 ?vEXPRESSION_PARTS_2 ?lEXPRESSION_PARTS_3 ?mEXPRESSION_PARTS_3 ?vEXPRESSION_PARTS_3 ?lEXPRESSION_PARTS_4 ?mEXPRESSION_PARTS_4 ?vEXPRESSION_PARTS_4 ?lEXPRESSION_PARTS_5 ?mEXPRESSION_PARTS_5 ?vEXPRESSION_PARTS_5 ?lEXPRESSION_PARTS_6 ?mEXPRESSION_PARTS_6 ?vEXPRESSION_PARTS_6 ?aSTATEMENT_PARTS ?lSTATEMENT_PARTS ?vSTATEMENT_PARTS ?sSTATEMENT_PARTS ?rSTATEMENT_PARTS ?lSTATEMENT_PARTS_0 ?mSTATEMENT_PARTS_0 ?vSTATEMENT_PARTS_0 ?lSTATEMENT_PARTS_1 ?mSTATEMENT_PARTS_1 ?vSTATEMENT_PARTS_1 ?lSTATEMENT_PARTS_2 ?mSTATEMENT_PARTS_2 ?vSTATEMENT_PARTS_2 ?lSTATEMENT_PARTS_3 ?mSTATEMENT_PARTS_3 ?vSTATEMENT_PARTS_3 ?lSTATEMENT_PARTS_4 ?mSTATEMENT_PARTS_4 ?vSTATEMENT_PARTS_4 ?lSTATEMENT_PARTS_5 ?mSTATEMENT_PARTS_5 ?vSTATEMENT_PARTS_5 ?lSTATEMENT_PARTS_6 ?mSTATEMENT_PARTS_6 ?vSTATEMENT_PARTS_6 ?lSTATEMENT_PARTS_7 ?mSTATEMENT_PARTS_7 ?vSTATEMENT_PARTS_7 ?lSTATEMENT_PARTS_8 ?mSTATEMENT_PARTS_8 ?vSTATEMENT_PARTS_8 ?lSTATEMENT_PARTS_9 ?mSTATEMENT_PARTS_9 ?vSTATEMENT_PARTS_9 ?lSTATEMENT_PARTS_10 ?mSTATEMENT_PARTS_10 ?vSTATEMENT_PARTS_10
    (case ais_between => k_is)
    (case lis_between => k_is)
    (case cis_between => k_is)
    (case kis_between => k_is)
    (case ais_word => k_is)
    (case lis_word => k_is)
    (case cis_word => k_is)
    (case kis_word => k_is)
    (case ais_tuple => k_is)
    (case lis_tuple => k_is)
    (case cis_tuple => k_is)
    (case kis_tuple => k_is)
    (case ais_name => k_is)
    (case lis_name => k_is)
    (case cis_name => k_is)
    (case kis_name => k_is)
    (case ais_param => k_is)
    (case lis_param => k_is)
    (case cis_param => k_is)
    (case kis_param => k_is)
    (case ais_shared_array => k_is)
    (case lis_shared_array => k_is)
    (case cis_shared_array => k_is)
    (case kis_shared_array => k_is)
    (case ais_head => k_is)
    (case lis_head => k_is)
    (case cis_head => k_is)
    (case kis_head => k_is)
    (case aknown_at_first => k_is)
    (case lknown_at_first => k_is)
    (case cknown_at_first => k_is)
    (case kknown_at_first => k_is)
    (case afirst_word => k_is)
    (case lfirst_word => k_is)
    (case cfirst_word => k_is)
    (case kfirst_word => k_is)
    (case ais_choice => k_is)
    (case lis_choice => k_is)
    (case cis_choice => k_is)
    (case kis_choice => k_is)
    (case ais_part => k_is)
    (case lis_part => k_is)
    (case cis_part => k_is)
    (case kis_part => k_is)
    (case ais_expression => k_is)
    (case lis_expression => k_is)
    (case cis_expression => k_is)
    (case kis_expression => k_is)
    (case ais_kernel => k_is)
    (case lis_kernel => k_is)
    (case cis_kernel => k_is)
    (case kis_kernel => k_is)
    (case acheck_kernel => k_is)
    (case lcheck_kernel => k_is)
    (case ccheck_kernel => k_is)
    (case kcheck_kernel => k_is)
    (case abodies => k_is)
    (case lbodies => k_is)
    (case cbodies => k_is)
    (case kbodies => k_is)
    (case astatements_in => k_is)
    (case lstatements_in => k_is)
    (case cstatements_in => k_is)
    (case kstatements_in => k_is)
    (case astatements => k_is)
    (case lstatements => k_is)
    (case cstatements => k_is)
    (case kstatements => k_is)
    (case alaw_stream => k_is)
    (case llaw_stream => k_is)
    (case claw_stream => k_is)
    (case klaw_stream => k_is)
    (case alaw_draw => k_is)
    (case llaw_draw => k_is)
    (case claw_draw => k_is)
    (case klaw_draw => k_is)
    (case alaw_given => k_is)
    (case llaw_given => k_is)
    (case claw_given => k_is)
    (case klaw_given => k_is)
    (case alaw_told => k_is)
    (case llaw_told => k_is)
    (case claw_told => k_is)
    (case klaw_told => k_is)
    (case alaw_case => k_is)
    (case llaw_case => k_is)
    (case claw_case => k_is)
    (case klaw_case => k_is)
    (case alaw => k_is)
    (case llaw => k_is)
    (case claw => k_is)
    (case klaw => k_is)
    (case oCWalk => k_is)
    (case pgWalk => k_is)
    (case hdWalk => k_is)
    (case poWalk => k_is)
    (case saWalk => k_is)
    (case mkWalk => k_is)
    (case kcWalk => k_is)
    (case na_passed_Walk => k_is)
    (case fainit => k_is)
    (case fiinit => k_is)
    (case linit => k_is)
    (case cinit => k_is)
    (case kinit => k_is)
    (case fais_body => k_is)
    (case fiis_body => k_is)
    (case lis_body => k_is)
    (case cis_body => k_is)
    (case kis_body => k_is)
    (case fais_statement => k_is)
    (case fiis_statement => k_is)
    (case lis_statement => k_is)
    (case cis_statement => k_is)
    (case kis_statement => k_is)
    (case aCDrawloomError => k_is)
    (case xCDrawloomError => k_exc)
    (case kCDrawloomError => k_is)
    (case bCDrawloomError => k_is)
    (case tCDrawloomError => k_is)
    (case dCDrawloomError => k_is)
    (case mCDrawloomError => k_is)
    (case e1DrawloomError => k_is)
    (case e2DrawloomError => k_is)
    (case e5DrawloomError => k_is)
    (case e6DrawloomError => k_is)
    (case e7DrawloomError => k_is)
    (case e8DrawloomError => k_is)
    (case vDrawloomError => kit_is)
    (case aCBadKernel => k_is)
    (case xCBadKernel => k_exc)
    (case kCBadKernel => k_is)
    (case bCBadKernel => k_is)
    (case tCBadKernel => k_is)
    (case dCBadKernel => k_is)
    (case mCBadKernel => k_is)
    (case e1BadKernel => k_is)
    (case e2BadKernel => k_is)
    (case e5BadKernel => k_is)
    (case e6BadKernel => k_is)
    (case e7BadKernel => k_is)
    (case e8BadKernel => k_is)
    (case vBadKernel => kit_is)
    (case kkBadKernelDrawloomError => kit_is)
    (case zabs => k_is)
    (case zall => k_is)
    (case zbool => k_is)
    (case zdict => k_is)
    (case zint => k_is)
    (case zisinstance => k_is)
    (case zlen => k_is)
    (case zlist => k_is)
    (case zrange => k_is)
    (case zset => k_is)
    (case zstr => k_is)
    (case ztuple => k_is)
    (case zzip => k_is)
    (case iLEAST => k_is)
    (case iGREATEST => k_is)
    (case iMOST_LETTERS => k_is)
    (case iMOST_PARAMS => k_is)
    (case iMOST_SHARED => k_is)
    (case iMOST_SHARED_CELLS => k_is)
    (case iDEEPEST_BODY => k_is)
    (case iDEEPEST_EXPRESSION => k_is)
    (case iMOST_STATEMENTS => k_is)
    (case iLETTERS => k_is)
    (case iDIGITS => k_is)
    (case aSPECIALS => k_is)
    (case lSPECIALS => k_is)
    (case mSPECIALS => exact (by rw [sizeLine_eq]; decide))
    (case vSPECIALS => exact by repeat (first | exact .nil | refine .cons ⟨_, rfl⟩ ?_))
    (case aUNARY => k_is)
    (case lUNARY => k_is)
    (case mUNARY => exact (by rw [sizeLine_eq]; decide))
    (case vUNARY => exact by repeat (first | exact .nil | refine .cons ⟨_, rfl⟩ ?_))
    (case aFOLDING => k_is)
    (case lFOLDING => k_is)
    (case mFOLDING => exact (by rw [sizeLine_eq]; decide))
    (case vFOLDING => exact by repeat (first | exact .nil | refine .cons ⟨_, rfl⟩ ?_))
    (case aBINARY => k_is)
    (case lBINARY => k_is)
    (case mBINARY => exact (by rw [sizeLine_eq]; decide))
    (case vBINARY => exact by repeat (first | exact .nil | refine .cons ⟨_, rfl⟩ ?_))
    (case aEXPRESSION_PARTS => k_is)
    (case lEXPRESSION_PARTS => k_is)
    (case vEXPRESSION_PARTS => k_keys)
    (case sEXPRESSION_PARTS => decide)
    (case rEXPRESSION_PARTS => exact (by repeat (first | exact trivial | refine ⟨⟨_, rfl⟩, rfl, ?_⟩)))
    (case lEXPRESSION_PARTS_0 => k_is)
    (case mEXPRESSION_PARTS_0 => exact (by rw [sizeLine_eq]; decide))
    (case vEXPRESSION_PARTS_0 => exact by repeat (first | exact .nil | refine .cons ⟨_, rfl⟩ ?_))
    (case lEXPRESSION_PARTS_1 => k_is)
    (case mEXPRESSION_PARTS_1 => exact (by rw [sizeLine_eq]; decide))
    (case vEXPRESSION_PARTS_1 => exact by repeat (first | exact .nil | refine .cons ⟨_, rfl⟩ ?_))
    (case lEXPRESSION_PARTS_2 => k_is)
    (case mEXPRESSION_PARTS_2 => exact (by rw [sizeLine_eq]; decide))
    (case vEXPRESSION_PARTS_2 => exact by repeat (first | exact .nil | refine .cons ⟨_, rfl⟩ ?_))
    (case lEXPRESSION_PARTS_3 => k_is)
    (case mEXPRESSION_PARTS_3 => exact (by rw [sizeLine_eq]; decide))
    (case vEXPRESSION_PARTS_3 => exact by repeat (first | exact .nil | refine .cons ⟨_, rfl⟩ ?_))
    (case lEXPRESSION_PARTS_4 => k_is)
    (case mEXPRESSION_PARTS_4 => exact (by rw [sizeLine_eq]; decide))
    (case vEXPRESSION_PARTS_4 => exact by repeat (first | exact .nil | refine .cons ⟨_, rfl⟩ ?_))
    (case lEXPRESSION_PARTS_5 => k_is)
    (case mEXPRESSION_PARTS_5 => exact (by rw [sizeLine_eq]; decide))
    (case vEXPRESSION_PARTS_5 => exact by repeat (first | exact .nil | refine .cons ⟨_, rfl⟩ ?_))
    (case lEXPRESSION_PARTS_6 => k_is)
    (case mEXPRESSION_PARTS_6 => exact (by rw [sizeLine_eq]; decide))
    (case vEXPRESSION_PARTS_6 => exact by repeat (first | exact .nil | refine .cons ⟨_, rfl⟩ ?_))
    (case aSTATEMENT_PARTS => k_is)
    (case lSTATEMENT_PARTS => k_is)
    (case vSTATEMENT_PARTS => k_keys)
    (case sSTATEMENT_PARTS => decide)
    (case rSTATEMENT_PARTS => exact (by repeat (first | exact trivial | refine ⟨⟨_, rfl⟩, rfl, ?_⟩)))
    (case lSTATEMENT_PARTS_0 => k_is)
    (case mSTATEMENT_PARTS_0 => exact (by rw [sizeLine_eq]; decide))
    (case vSTATEMENT_PARTS_0 => exact by repeat (first | exact .nil | refine .cons ⟨_, rfl⟩ ?_))
    (case lSTATEMENT_PARTS_1 => k_is)
    (case mSTATEMENT_PARTS_1 => exact (by rw [sizeLine_eq]; decide))
    (case vSTATEMENT_PARTS_1 => exact by repeat (first | exact .nil | refine .cons ⟨_, rfl⟩ ?_))
    (case lSTATEMENT_PARTS_2 => k_is)
    (case mSTATEMENT_PARTS_2 => exact (by rw [sizeLine_eq]; decide))
    (case vSTATEMENT_PARTS_2 => exact by repeat (first | exact .nil | refine .cons ⟨_, rfl⟩ ?_))
    (case lSTATEMENT_PARTS_3 => k_is)
    (case mSTATEMENT_PARTS_3 => exact (by rw [sizeLine_eq]; decide))
    (case vSTATEMENT_PARTS_3 => exact by repeat (first | exact .nil | refine .cons ⟨_, rfl⟩ ?_))
    (case lSTATEMENT_PARTS_4 => k_is)
    (case mSTATEMENT_PARTS_4 => exact (by rw [sizeLine_eq]; decide))
    (case vSTATEMENT_PARTS_4 => exact by repeat (first | exact .nil | refine .cons ⟨_, rfl⟩ ?_))
    (case lSTATEMENT_PARTS_5 => k_is)
    (case mSTATEMENT_PARTS_5 => exact (by rw [sizeLine_eq]; decide))
    (case vSTATEMENT_PARTS_5 => exact by repeat (first | exact .nil | refine .cons ⟨_, rfl⟩ ?_))
    (case lSTATEMENT_PARTS_6 => k_is)
    (case mSTATEMENT_PARTS_6 => exact (by rw [sizeLine_eq]; decide))
    (case vSTATEMENT_PARTS_6 => exact by repeat (first | exact .nil | refine .cons ⟨_, rfl⟩ ?_))
    (case lSTATEMENT_PARTS_7 => k_is)
    (case mSTATEMENT_PARTS_7 => exact (by rw [sizeLine_eq]; decide))
    (case vSTATEMENT_PARTS_7 => exact by repeat (first | exact .nil | refine .cons ⟨_, rfl⟩ ?_))
    (case lSTATEMENT_PARTS_8 => k_is)
    (case mSTATEMENT_PARTS_8 => exact (by rw [sizeLine_eq]; decide))
    (case vSTATEMENT_PARTS_8 => exact by repeat (first | exact .nil | refine .cons ⟨_, rfl⟩ ?_))
    (case lSTATEMENT_PARTS_9 => k_is)
    (case mSTATEMENT_PARTS_9 => exact (by rw [sizeLine_eq]; decide))
    (case vSTATEMENT_PARTS_9 => exact by repeat (first | exact .nil | refine .cons ⟨_, rfl⟩ ?_))
    (case lSTATEMENT_PARTS_10 => k_is)
    (case mSTATEMENT_PARTS_10 => exact (by rw [sizeLine_eq]; decide))
    (case vSTATEMENT_PARTS_10 => exact by repeat (first | exact .nil | refine .cons ⟨_, rfl⟩ ?_))
#print axioms PySem.Challenge.cw_drawloom_k04_bounds_of_kernels_holds
