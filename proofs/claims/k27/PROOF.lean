import PyProof.Rows.All
import Wide.All
import OpenK.AllK
import Wide.FinOn
import HandS.ForMost
import HandS.ForExc
import HandS.Wide
import HandS.IsInst
import HandS.More
import HandS.Codes
import HandS.Walk
import HandS.TryOnly
import HandS.Strs
import HandS.Zip
import HandS.TupAny
import HandS.TupMul
import HandS.ExcIs
import HandS.DictComp
import KE.RegKIsAll
import PySem.Challenge.RW_drawloom_k27_postdominators
set_option Elab.async false
set_option linter.all false
set_option maxRecDepth 100000
/-! Flow graphs. -/
namespace L2
open PySem PySem.Spec PyProof.Rows
/-! ### data: what a value is, whatever stands where -/
theorem Same.sqt {K : PySem.W.Frag} {H H' : Hp} {a : Addr} {xs : List V} (e : Same H H') (h : SqT K H a xs) : SqT K H' a xs := by
  rcases h with (h | ⟨o, h⟩) | h
  · exact .inl (.inl (e _ _ h))
  · exact .inl (.inr ⟨o, e _ _ h⟩)
  · exact .inr h
/-- what stands outside of M stands as before -/
def Off (M : Addr → Prop) (H H' : Hp) : Prop := ∀ b o, ¬ M b → H b = some o → H' b = some o
theorem Off.refl {M : Addr → Prop} {H : Hp} : Off M H H := fun _ _ _ h => h
theorem Off.trans {M : Addr → Prop} {H H1 H2 : Hp} (a : Off M H H1) (b : Off M H1 H2) : Off M H H2 := fun c o n h => b c o n (a c o n h)
theorem Off.of {M : Addr → Prop} {H H' : Hp} (h : Same H H') : Off M H H' := fun b o _ e => h b o e
theorem Off.mono {M N : Addr → Prop} {H H' : Hp} (h : Off M H H') (s : ∀ b, M b → N b) : Off N H H' := fun b o n e => h b o (fun m => n (s b m)) e
/-- a list, a tuple that is read and is not in M -/
def SqLM (M : Addr → Prop) (K : PySem.W.Frag) (H : Hp) (a : Addr) (xs : List V) : Prop :=
  (¬ M a ∧ Rd H a (.lst xs)) ∨ ∃ (o : Obj) (its : Array Value) (n : Nat), K.lookup a = some o ∧ o.cls = .type "list" ∧ o.dict = none ∧ o.data = .seq its n ∧ its.size ≤ sizeLine ∧ Vals xs its.toList
def SqTM (M : Addr → Prop) (K : PySem.W.Frag) (H : Hp) (a : Addr) (xs : List V) : Prop :=
  (¬ M a ∧ Rd H a (.tup xs)) ∨ ∃ (o : Obj) (its : Array Value) (n : Nat), K.lookup a = some o ∧ o.cls = .type "tuple" ∧ o.data = .seq its n ∧ its.size ≤ sizeLine ∧ Vals xs its.toList
theorem SqLM.sq {M : Addr → Prop} {K : PySem.W.Frag} {H : Hp} {a : Addr} {xs : List V} (h : SqLM M K H a xs) : SqL K H a xs := by
  rcases h with ⟨_, h⟩ | h
  · exact .inl h
  · exact .inr h
theorem SqTM.sq {M : Addr → Prop} {K : PySem.W.Frag} {H : Hp} {a : Addr} {xs : List V} (h : SqTM M K H a xs) : SqT K H a xs := by
  rcases h with ⟨_, h⟩ | h
  · exact .inl h
  · exact .inr h
theorem Rd.off {M : Addr → Prop} {H H' : Hp} {a : Addr} {u : HO} (e : Off M H H') (n : ¬ M a) (h : Rd H a u) : Rd H' a u := by
  rcases h with h | ⟨o, h⟩
  · exact .inl (e _ _ n h)
  · exact .inr ⟨o, e _ _ n h⟩
theorem Rd.some {H : Hp} {a : Addr} {u : HO} (h : Rd H a u) : H a ≠ none := by
  rcases h with h | ⟨o, h⟩ <;> rw [h] <;> intro z <;> cases z
theorem SqLM.off {M : Addr → Prop} {K : PySem.W.Frag} {H H' : Hp} {a : Addr} {xs : List V} (e : Off M H H') (h : SqLM M K H a xs) : SqLM M K H' a xs := by
  rcases h with ⟨n, h⟩ | h
  · exact .inl ⟨n, Rd.off e n h⟩
  · exact .inr h
theorem SqTM.off {M : Addr → Prop} {K : PySem.W.Frag} {H H' : Hp} {a : Addr} {xs : List V} (e : Off M H H') (h : SqTM M K H a xs) : SqTM M K H' a xs := by
  rcases h with ⟨n, h⟩ | h
  · exact .inl ⟨n, Rd.off e n h⟩
  · exact .inr h
theorem SqLM.more {M N : Addr → Prop} {K : PySem.W.Frag} {H : Hp} {a : Addr} {xs : List V} (s : ∀ b, N b → M b ∨ H b = none) (h : SqLM M K H a xs) : SqLM N K H a xs := by
  rcases h with ⟨n, h⟩ | h
  · exact .inl ⟨fun z => (s _ z).elim n h.some, h⟩
  · exact .inr h
theorem SqTM.more {M N : Addr → Prop} {K : PySem.W.Frag} {H : Hp} {a : Addr} {xs : List V} (s : ∀ b, N b → M b ∨ H b = none) (h : SqTM M K H a xs) : SqTM N K H a xs := by
  rcases h with ⟨n, h⟩ | h
  · exact .inl ⟨fun z => (s _ z).elim n h.some, h⟩
  · exact .inr h
mutual
/-- data none of whose objects is in M -/
inductive Dt (M : Addr → Prop) (K : PySem.W.Frag) (H : Hp) : V → PyData → Prop
  | non : Dt M K H .non .none
  | bl (b : Bool) : Dt M K H (.bl b) (.bool b)
  | int (i : Int) : Dt M K H (.int i) (.int i)
  | str (x : Str) : Dt M K H (.str x) (.str x)
  | lst {a : Addr} {xs : List V} {ds : List PyData} : SqLM M K H a xs → DtAll M K H xs ds → Dt M K H (.ref a) (.list ds)
  | tup {a : Addr} {xs : List V} {ds : List PyData} : SqTM M K H a xs → DtAll M K H xs ds → Dt M K H (.ref a) (.tuple ds)
inductive DtAll (M : Addr → Prop) (K : PySem.W.Frag) (H : Hp) : List V → List PyData → Prop
  | nil : DtAll M K H [] []
  | cons {v : V} {vs : List V} {d : PyData} {ds : List PyData} : Dt M K H v d → DtAll M K H vs ds → DtAll M K H (v :: vs) (d :: ds)
end
theorem SqL.off {M : Addr → Prop} {K : PySem.W.Frag} {H H' : Hp} {a : Addr} {xs : List V} (e : Off M H H') (n : ¬ M a) (h : SqL K H a xs) : SqL K H' a xs := by
  rcases h with (h | ⟨o, h⟩) | h
  · exact .inl (.inl (e _ _ n h))
  · exact .inl (.inr ⟨o, e _ _ n h⟩)
  · exact .inr h
theorem SqT.off {M : Addr → Prop} {K : PySem.W.Frag} {H H' : Hp} {a : Addr} {xs : List V} (e : Off M H H') (n : ¬ M a) (h : SqT K H a xs) : SqT K H' a xs := by
  rcases h with (h | ⟨o, h⟩) | h
  · exact .inl (.inl (e _ _ n h))
  · exact .inl (.inr ⟨o, e _ _ n h⟩)
  · exact .inr h
section
variable {M N : Addr → Prop} {K : PySem.W.Frag} {H H' : Hp}
mutual
theorem Dt.off (e : Off M H H') : ∀ {v : V} {d : PyData}, Dt M K H v d → Dt M K H' v d
  | _, _, .non => .non
  | _, _, .bl b => .bl b
  | _, _, .int i => .int i
  | _, _, .str x => .str x
  | _, _, .lst h r => .lst (h.off e) (DtAll.off e r)
  | _, _, .tup h r => .tup (h.off e) (DtAll.off e r)
theorem DtAll.off (e : Off M H H') : ∀ {vs : List V} {ds : List PyData}, DtAll M K H vs ds → DtAll M K H' vs ds
  | _, _, .nil => .nil
  | _, _, .cons h r => .cons (Dt.off e h) (DtAll.off e r)
end
mutual
theorem Dt.more (s : ∀ b, N b → M b ∨ H b = none) : ∀ {v : V} {d : PyData}, Dt M K H v d → Dt N K H v d
  | _, _, .non => .non
  | _, _, .bl b => .bl b
  | _, _, .int i => .int i
  | _, _, .str x => .str x
  | _, _, .lst h r => .lst (h.more s) (DtAll.more s r)
  | _, _, .tup h r => .tup (h.more s) (DtAll.more s r)
theorem DtAll.more (s : ∀ b, N b → M b ∨ H b = none) : ∀ {vs : List V} {ds : List PyData}, DtAll M K H vs ds → DtAll N K H vs ds
  | _, _, .nil => .nil
  | _, _, .cons h r => .cons (Dt.more s h) (DtAll.more s r)
end
mutual
theorem Dt.dp : ∀ {v : V} {d : PyData}, Dt M K H v d → Dp K H v d
  | _, _, .non => .non
  | _, _, .bl b => .bl b
  | _, _, .int i => .int i
  | _, _, .str x => .str x
  | _, _, .lst h r => .lst h.sq (DtAll.dp r)
  | _, _, .tup h r => .tup h.sq (DtAll.dp r)
theorem DtAll.dp : ∀ {vs : List V} {ds : List PyData}, DtAll M K H vs ds → DpAll K H vs ds
  | _, _, .nil => .nil
  | _, _, .cons h r => .cons (Dt.dp h) (DtAll.dp r)
end
mutual
theorem Dp.same (e : Same H H') : ∀ {v : V} {d : PyData}, Dp K H v d → Dp K H' v d
  | _, _, .non => .non
  | _, _, .bl b => .bl b
  | _, _, .int i => .int i
  | _, _, .str x => .str x
  | _, _, .lst h r => .lst (e.seq h) (DpAll.same e r)
  | _, _, .tup h r => .tup (Same.sqt e h) (DpAll.same e r)
theorem DpAll.same (e : Same H H') : ∀ {vs : List V} {ds : List PyData}, DpAll K H vs ds → DpAll K H' vs ds
  | _, _, .nil => .nil
  | _, _, .cons h r => .cons (Dp.same e h) (DpAll.same e r)
end
theorem DpAll.len : ∀ {vs : List V} {ds : List PyData}, DpAll K H vs ds → vs.length = ds.length
  | _, _, .nil => rfl
  | _, _, .cons _ r => congrArg (· + 1) (DpAll.len r)
theorem DtAll.len {vs : List V} {ds : List PyData} (h : DtAll M K H vs ds) : vs.length = ds.length := DpAll.len (DtAll.dp h)
theorem DpAll.get : ∀ {vs : List V} {ds : List PyData} {i : Nat} {v : V}, DpAll K H vs ds → vs[i]? = some v → ∃ d, ds[i]? = some d ∧ Dp K H v d
  | _, _, _, _, .nil, e => by simp at e
  | _, _, 0, _, .cons h _, e => ⟨_, rfl, by cases e; exact h⟩
  | _, _, i + 1, _, .cons _ r, e => DpAll.get (i := i) r e
theorem DpAll.at : ∀ {vs : List V} {ds : List PyData} {i : Nat} {d : PyData}, DpAll K H vs ds → ds[i]? = some d → ∃ v, vs[i]? = some v ∧ Dp K H v d
  | _, _, _, _, .nil, e => by simp at e
  | _, _, 0, _, .cons h _, e => ⟨_, rfl, by cases e; exact h⟩
  | _, _, i + 1, _, .cons _ r, e => DpAll.at (i := i) r e
theorem DtAll.get : ∀ {vs : List V} {ds : List PyData} {i : Nat} {v : V}, DtAll M K H vs ds → vs[i]? = some v → ∃ d, ds[i]? = some d ∧ Dt M K H v d
  | _, _, _, _, .nil, e => by simp at e
  | _, _, 0, _, .cons h _, e => ⟨_, rfl, by cases e; exact h⟩
  | _, _, i + 1, _, .cons _ r, e => DtAll.get (i := i) r e
theorem DtAll.at : ∀ {vs : List V} {ds : List PyData} {i : Nat} {d : PyData}, DtAll M K H vs ds → ds[i]? = some d → ∃ v, vs[i]? = some v ∧ Dt M K H v d
  | _, _, _, _, .nil, e => by simp at e
  | _, _, 0, _, .cons h _, e => ⟨_, rfl, by cases e; exact h⟩
  | _, _, i + 1, _, .cons _ r, e => DtAll.at (i := i) r e
theorem DtAll.app : ∀ {vs us : List V} {ds es : List PyData}, DtAll M K H vs ds → DtAll M K H us es → DtAll M K H (vs ++ us) (ds ++ es)
  | _, _, _, _, .nil, h => h
  | _, _, _, _, .cons h r, q => .cons h (DtAll.app r q)
theorem DtAll.take : ∀ {vs : List V} {ds : List PyData} (n : Nat), DtAll M K H vs ds → DtAll M K H (vs.take n) (ds.take n)
  | _, _, 0, _ => .nil
  | _, _, _ + 1, .nil => .nil
  | _, _, n + 1, .cons h r => .cons h (DtAll.take n r)
theorem DtAll.drop : ∀ {vs : List V} {ds : List PyData} (n : Nat), DtAll M K H vs ds → DtAll M K H (vs.drop n) (ds.drop n)
  | _, _, 0, h => h
  | _, _, _ + 1, .nil => .nil
  | _, _, n + 1, .cons _ r => DtAll.drop n r
theorem DtAll.rep {v : V} {d : PyData} (h : Dt M K H v d) : ∀ n : Nat, DtAll M K H (List.replicate n v) (List.replicate n d)
  | 0 => .nil
  | n + 1 => .cons h (DtAll.rep h n)
/-- a tuple that was just laid -/
theorem Dt.laid {a : Addr} {xs : List V} {ds : List PyData} (n : ¬ M a) (h : H a = some (.tup xs)) (r : DtAll M K H xs ds) : Dt M K H (.ref a) (.tuple ds) := .tup (.inl ⟨n, .inl h⟩) r
theorem Dt.laidL {a : Addr} {xs : List V} {ds : List PyData} (n : ¬ M a) (h : H a = some (.lst xs)) (r : DtAll M K H xs ds) : Dt M K H (.ref a) (.list ds) := .lst (.inl ⟨n, .inl h⟩) r
theorem DtAll.ints : ∀ xs : List Int, DtAll M K H (xs.map V.int) (xs.map PyData.int)
  | [] => .nil
  | x :: r => .cons (.int x) (DtAll.ints r)
/-- a type's name -/
def tyN : PyData → String
  | .none => "NoneType"
  | .bool _ => "bool"
  | .int _ => "int"
  | .str _ => "str"
  | .list _ => "list"
  | .tuple _ => "tuple"
  | .dict _ => "dict"
theorem Dp.tyx : ∀ {v : V} {d : PyData}, Dp K H v d → TyX K H v (.type (tyN d))
  | _, _, .non => .base .non
  | _, _, .bl b => .base (.bl b)
  | _, _, .int i => .base (.int i)
  | _, _, .str x => .base (.str x)
  | _, _, .lst (.inl (.inl h)) _ => .base (.lst h)
  | _, _, .lst (.inl (.inr ⟨_, h⟩)) _ => .base (.frz h)
  | _, _, .lst (.inr ⟨_, _, _, h, c, _⟩) _ => .kList h c
  | _, _, .tup (.inl (.inl h)) _ => .base (.tup h)
  | _, _, .tup (.inl (.inr ⟨_, h⟩)) _ => .fTuple h
  | _, _, .tup (.inr ⟨_, _, _, h, c, _⟩) _ => .kTuple h c
end
def isTup : PyData → Bool
  | .tuple _ => true
  | _ => false
def isStr : PyData → Bool
  | .str _ => true
  | _ => false
def isBool : PyData → Bool
  | .bool _ => true
  | _ => false
def isInt : PyData → Bool
  | .bool _ | .int _ => true
  | _ => false
theorem kit_tup {K : PySem.W.Frag} (d : PyData) : PySem.W.kitOne K (.type (tyN d)) (.type "tuple") = some (isTup d) := by
  cases d <;> exact kit_ty (by kernel_rfl)
theorem kit_int {K : PySem.W.Frag} (d : PyData) : PySem.W.kitOne K (.type (tyN d)) (.type "int") = some (isInt d) := by
  cases d <;> exact kit_ty (by kernel_rfl)
theorem kit_bool {K : PySem.W.Frag} (d : PyData) : PySem.W.kitOne K (.type (tyN d)) (.type "bool") = some (isBool d) := by
  cases d <;> exact kit_ty (by kernel_rfl)
theorem kit_str {K : PySem.W.Frag} (d : PyData) : PySem.W.kitOne K (.type (tyN d)) (.type "str") = some (isStr d) := by
  cases d <;> exact kit_ty (by kernel_rfl)
end L2

namespace L2
open PySem PySem.Spec PyProof.Rows
/-! ### repr of data: the law's own def runs where nothing is being shown -/
section
variable {P : Program} {w : World} {K : PySem.W.Frag} {mg : Str → Option Value} {base : Heap}
/-- the call of a def, at one place -/
theorem Fun.runAt {x qual : Str} {st : Stmt} {f : Addr} {fd : FuncData} {N ps : List Str} {k : Nat} (F : Fun K x qual st f fd) (S : FnScope N ps (defScope st))
    {A : Around} {outer : List Env} {s : Shared} {H : Hp} {args : Args} {us : List Value} {vs : List V} {Q : VK} {E : XK} (room : Room (k + 1) A) (en : Env0 P w K mg base A outer s H)
    (bi : BindsTo s fd args (ps.zip us)) (rel : Vals vs us) (many : vs.length = ps.length)
    (walk : ∀ cdv : Value, Room k (A.deeper (envOfC qual (defScope st) s.heap.objs.size f cdv)) →
      ∃ t, PSs (cxOf CX0 P w K mg base N qual (defScope st) f cdv A outer s H E).nox (defBody st) t ∧ t { nx := fun _ h => Q .non h, rt := Q } (start N vs) H) :
    codeAny (model P w) A (.call (.ref f) args) (CR CX0 outer P w H s Q E) s := by
  obtain ⟨oc, od, kV, doc, pm, an, cdv, ct, osl, rfl, look, rec⟩ := F.ex
  have inK : K.In s.heap := en.mod.kin.keeps fun c u z => (en.bs c u z).1
  have free : s.heap.NoLimit := en.mod.nolimit.keeps fun c u z => (en.bs c u z).1
  refine codeAny_call_function room.depth (inK _ _ look) rfl S.co S.gen rfl (PySem.W.codeRec_of inK rec) (bi _ _ _ _ ?_)
  refine wpAny_newFunctionEnv_cells S.kind (fun ⟨n, v⟩ hy => (S.par n (List.of_mem_zip hy).1).elim .inl fun q => .inr ⟨q, PySem.W.cellsFrom_some _ _ _ (.inl q)⟩) fun env he s1 born => ?_
  subst he
  refine ⟨free.keeps born.toInCall.keep, codeAny_func ?_⟩
  obtain ⟨t, good, go⟩ := walk cdv (room.deeper _)
  refine wpAny_mono (good.nox.run [] s1 (start N vs) H _ (inv_start S room.hd en many rel born) go) (fun fl s2 hs => ?_) fun _ _ hs => hs
  match fl, hs with
  | .ret u, ⟨v, σ2, H2, J, rv, q⟩ => exact ⟨v, H2, J.os, J.bare, J.base, J.hok, rv, q⟩
  | .next, ⟨σ2, H2, J, q⟩ => exact ⟨V.non, H2, J.os, J.bare, J.base, J.hok, rfl, q⟩
  | .brk, ⟨_, _, _, q⟩ => exact False.elim q
  | .cont, ⟨_, _, _, q⟩ => exact False.elim q
end
end L2
namespace L2
open PySem PySem.Spec PyProof.Rows
section
variable {X : Cx}
/-- repr(x) of a list of data, where nothing is being shown -/
def rRepr (K : PySem.W.Frag) : List V → Hp → VK → Prop := fun xs H Q => ∃ (a : Addr) (d : PyData), xs = [.ref a] ∧ Dp K H (.ref a) d ∧ d.showable = true ∧ d.hasDict = false ∧ d.depth ≤ 60 ∧ d.shown.length ≤ sizeLine ∧ Q (.str d.shown) H
theorem call_reprD (quiet : X.A.guards = some []) (room : X.A.units + 64 < cLine) : CallR X (.builtin "repr") (rRepr X.K) := by
  intro pins s σ H xs us Q I r h
  obtain ⟨a, d, rfl, hd, h1, h2, h3, h4, q⟩ := h
  obtain ⟨u, rfl, hu⟩ := vals1 r
  obtain ⟨as, rd⟩ := Dp.reads I d (.ref a) u hd hu
  cases hu
  exact repr_of_reads' rd h1 (PySem.PyData.noDict_hsm h2) quiet (by omega) (fun _ _ e => e) (fun h' t tk hk => ⟨.str _, H, I.kept hk, ⟨_, rfl⟩, q⟩) h4
end
/-! ### how long such a text is -/
theorem textFrom_le : ∀ (ts : List Str) (k : Nat) (acc : Str), (textFrom k acc ts).length ≤ acc.length + (ts.map fun t => t.length + 2).sum
  | [], k, acc => Nat.le_refl _
  | t :: r, k, acc => by
    have a := textFrom_le r (k + 1) (acc ++ (if k > 0 then ", " else "" : String) ++ t)
    have e : (acc ++ (if k > 0 then ", " else "" : String) ++ t).length ≤ acc.length + 2 + t.length := by
      rw [strLen_append, strLen_append]
      have : (Str.ofString (if k > 0 then ", " else "" : String)).length ≤ 2 := by split <;> decide
      omega
    show (textFrom (k + 1) (acc ++ (if k > 0 then ", " else "" : String) ++ t) r).length ≤ _
    rw [List.map_cons, List.sum_cons]
    omega
theorem listText_le (ts : List Str) : (listText ts).length ≤ 2 + (ts.map fun t => t.length + 2).sum := by
  unfold listText
  rw [strLen_append]
  have a := textFrom_le ts 0 "["
  have b : (Str.ofString "[").length = 1 := rfl
  have c : (Str.ofString "]").length = 1 := rfl
  omega
def Small (x : Int) : Prop := x.natAbs < 1000
theorem small_text {x : Int} (h : Small x) : (PyData.int x).shown.length ≤ 4 ∧ (PyData.int x).showable = true := by
  refine ⟨?_, ?_⟩
  · have a : (toString x).length ≤ 3 + 1 := int_text_length_le10 (by decide) h
    simp only [PyData.shown]
    rw [PySem.ofString_length]
    exact a
  · simp only [PyData.showable]
    refine decide_eq_true ?_
    by_cases z : x.natAbs = 0
    · rw [z]; decide
    · exact Nat.lt_of_lt_of_le ((Nat.log2_lt z).mpr (Nat.lt_trans h (by decide : 1000 < 2 ^ 10))) (by decide)
theorem sum_le {l : List Nat} {m : Nat} (h : ∀ x ∈ l, x ≤ m) : l.sum ≤ m * l.length := by
  induction l with
  | nil => exact Nat.zero_le _
  | cons x r ih =>
    have a := h x (.head _)
    have b := ih fun y hy => h y (.tail _ hy)
    rw [List.sum_cons, List.length_cons, Nat.mul_succ]
    omega
/-- what repr asks of a list -/
structure Shows (d : PyData) : Prop where
  able : d.showable = true
  dict : d.hasDict = false
  deep : d.depth ≤ 60
  size : d.shown.length ≤ sizeLine
theorem shows_ints {xs : List Int} (h : ∀ x ∈ xs, Small x) (hl : xs.length ≤ 1000) : Shows (.list (xs.map PyData.int)) ∧ (PyData.list (xs.map PyData.int)).shown.length ≤ 2 + 6 * xs.length ∧ (PyData.list (xs.map PyData.int)).depth = 1 := by
  have e1 : ∀ ys : List Int, (∀ x ∈ ys, Small x) → PyData.showableAll (ys.map PyData.int) = true ∧ PyData.hasDictAll (ys.map PyData.int) = false ∧ PyData.depthAll (ys.map PyData.int) = 0 ∧ (∀ n ∈ (PyData.shownAll (ys.map PyData.int)).map (fun t => t.length + 2), n ≤ 6) ∧ ((PyData.shownAll (ys.map PyData.int)).map (fun t => t.length + 2)).length = ys.length := by
    intro ys
    induction ys with
    | nil => intro _; exact ⟨rfl, rfl, rfl, fun _ h => (by cases h), rfl⟩
    | cons y r ih =>
      intro hy
      obtain ⟨a1, a2, a3, a4, a5⟩ := ih fun x m => hy x (.tail _ m)
      obtain ⟨b1, b2⟩ := small_text (hy y (.head _))
      refine ⟨?_, ?_, ?_, fun n hn => ?_, ?_⟩
      · rw [List.map_cons, PyData.showableAll, b2, a1]; rfl
      · rw [List.map_cons, PyData.hasDictAll, a2]; simp only [PyData.hasDict, Bool.or_self]
      · rw [List.map_cons]; simp only [PyData.depthAll, PyData.depth, a3, Nat.max_self]
      · rw [List.map_cons, PyData.shownAll, List.map_cons] at hn
        rcases List.mem_cons.mp hn with rfl | hn
        · omega
        · exact a4 n hn
      · rw [List.map_cons, PyData.shownAll, List.map_cons, List.length_cons, a5, List.length_cons]
  obtain ⟨a1, a2, a3, a4, a5⟩ := e1 xs h
  have sz : (PyData.list (xs.map PyData.int)).shown.length ≤ 2 + 6 * xs.length := by
    have b := listText_le (PyData.shownAll (xs.map PyData.int))
    have c := sum_le a4
    rw [a5] at c
    simp only [PyData.shown]
    omega
  have dp : (PyData.list (xs.map PyData.int)).depth = 1 := by simp only [PyData.depth, a3]
  refine ⟨⟨by simp only [PyData.showable]; exact a1, by simp only [PyData.hasDict]; exact a2, by rw [dp]; decide, ?_⟩, sz, dp⟩
  refine Nat.le_trans sz (Nat.le_trans (?_ : 2 + 6 * xs.length ≤ 10000) (by rw [sizeLine_eq]; decide))
  omega
theorem shows_rows {xss : List (List Int)} (h : ∀ xs ∈ xss, xs.length ≤ 100 ∧ ∀ x ∈ xs, Small x) (hl : xss.length ≤ 100) : Shows (.list (xss.map fun xs => .list (xs.map PyData.int))) ∧ (PyData.list (xss.map fun xs => .list (xs.map PyData.int))).shown.length ≤ 100000 ∧ (PyData.list (xss.map fun xs => .list (xs.map PyData.int))).depth ≤ 5 := by
  have e1 : ∀ yss : List (List Int), (∀ xs ∈ yss, xs.length ≤ 100 ∧ ∀ x ∈ xs, Small x) → PyData.showableAll (yss.map fun xs => .list (xs.map PyData.int)) = true ∧ PyData.hasDictAll (yss.map fun xs => .list (xs.map PyData.int)) = false ∧ PyData.depthAll (yss.map fun xs => .list (xs.map PyData.int)) ≤ 1 ∧
      (∀ n ∈ (PyData.shownAll (yss.map fun xs => .list (xs.map PyData.int))).map (fun t => t.length + 2), n ≤ 604) ∧ ((PyData.shownAll (yss.map fun xs => .list (xs.map PyData.int))).map (fun t => t.length + 2)).length = yss.length := by
    intro yss
    induction yss with
    | nil => intro _; exact ⟨rfl, rfl, Nat.zero_le _, fun _ h => (by cases h), rfl⟩
    | cons y r ih =>
      intro hy
      obtain ⟨a1, a2, a3, a4, a5⟩ := ih fun x m => hy x (.tail _ m)
      obtain ⟨c1, c2⟩ := hy y (.head _)
      obtain ⟨b1, b2, b3⟩ := shows_ints c2 (by omega)
      refine ⟨?_, ?_, ?_, fun n hn => ?_, ?_⟩
      · rw [List.map_cons, PyData.showableAll, b1.able, a1]; rfl
      · rw [List.map_cons, PyData.hasDictAll, b1.dict, a2]; rfl
      · rw [List.map_cons, PyData.depthAll, b3]; omega
      · rw [List.map_cons, PyData.shownAll, List.map_cons] at hn
        rcases List.mem_cons.mp hn with rfl | hn
        · omega
        · exact a4 n hn
      · rw [List.map_cons, PyData.shownAll, List.map_cons, List.length_cons, a5, List.length_cons]
  obtain ⟨a1, a2, a3, a4, a5⟩ := e1 xss h
  have b := listText_le (PyData.shownAll (xss.map fun xs => .list (xs.map PyData.int)))
  have c := sum_le a4
  rw [a5] at c
  have sz : (PyData.list (xss.map fun xs => .list (xs.map PyData.int))).shown.length ≤ 100000 := by
    simp only [PyData.shown]
    omega
  have dp : (PyData.list (xss.map fun xs => .list (xs.map PyData.int))).depth ≤ 5 := by simp only [PyData.depth]; omega
  exact ⟨⟨by simp only [PyData.showable]; exact a1, by simp only [PyData.hasDict]; exact a2, by omega, Nat.le_trans sz (by rw [sizeLine_eq]; decide)⟩, sz, dp⟩
end L2
namespace L2
open PySem PySem.Spec PyProof.Rows
/-! ### the law's call, at the place where it is made -/
/-- what is asked of the law's def: its call from without, over any base -/
def LawRun (P : Program) (w : World) (K : PySem.W.Frag) (mg : Str → Option Value) (f : Addr) (fd : FuncData) (x : Str) (n : Nat) : Prop :=
  ∀ (base : Heap) (s : Shared) (H : Hp) (a : Addr) (ns : List Int) (Q : VK) (E : XK), K.In base → base.Ns mainGlobals mg → Env0 P w K mg base callerA [] s H → BindsTo s fd ⟨[.ref a], []⟩ [(x, .ref a)] → ns.length ≤ n → SqL K H a (ns.map V.int) →
    (∀ H', Q (.bl true) H') → codeAny (model P w) callerA (.call (.ref f) ⟨[.ref a], []⟩) (CR CX0 [] P w H s Q E) s
theorem LawRun.call {P : Program} {w : World} {K : PySem.W.Frag} {mg mb : Str → Option Value} {fa a : Addr} {fd : FuncData} {x : Str} {n : Nat} {s₁ : Shared} {vs : List Value} {ns : List Int} (R : LawRun P w K mg fa fd x n)
    (inK : K.In s₁.heap) (hm : s₁.heap.Ns mainGlobals mg) (hb : s₁.heap.Ns builtinsNs mb) (boot : ∀ y : Str, y ≠ "__name__" → mb y = bootBuiltins y) (lim : s₁.heap.NoLimit) (quiet : s₁.gens = #[])
    (obj : s₁.heap.get? a = some { cls := .type "list", data := .seq vs.toArray }) (isI : IntsAre vs ns) (hn : ns.length ≤ n) (hz : n ≤ sizeLine) (bi : ∀ (s : Shared) (u : Value), BindsTo s fd ⟨[u], []⟩ [(x, u)]) :
    codeAny (model P w) callerA (.call (.ref fa) ⟨[.ref a], []⟩) (fun r s' => r = .ok (.ret (.bool true)) ∧ OldK s₁.heap s'.heap ∧ s'.os = s₁.os ∧ AllBare s'.gens) s₁ := by
  have rel := vals_ints isI
  have len := isI.length
  -- H: the script alone, or nothing
  have main : ∀ H : Hp, (∀ b, H b = none ∨ (b = a ∧ H b = some (.frz { cls := .type "list", data := .seq vs.toArray } (.lst (ns.map V.int))) ∧ K.lookup a = none)) → SqL K H a (ns.map V.int) →
      codeAny (model P w) callerA (.call (.ref fa) ⟨[.ref a], []⟩) (fun r s' => r = .ok (.ret (.bool true)) ∧ OldK s₁.heap s'.heap ∧ s'.os = s₁.os ∧ AllBare s'.gens) s₁ := by
    intro H only sq
    have ok : HOk P w H s₁.heap := fun b u z => by
      rcases only b with y | ⟨rfl, y, _⟩
      · rw [y] at z; cases z
      · rw [y] at z
        cases z
        exact ⟨obj, by rw [List.length_map]; omega, vs, _, rel, obj⟩
    have nsOf : ∀ {b : Addr} {m : Str → Option Value}, s₁.heap.Ns b m → (hidT s₁.heap H).Ns b m := by
      rintro b m ⟨o, es, ep, g, d, r⟩
      refine ⟨o, es, ep, hidT_get g ?_, d, r⟩
      rcases only b with y | ⟨rfl, _, _⟩
      · exact y
      · rw [obj] at g
        cases g
        cases d
    have inB : K.In (hidT s₁.heap H) := fun b o g => hidT_get (inK b o g) (by
      rcases only b with y | ⟨rfl, _, y⟩
      · exact y
      · rw [y] at g; cases g)
    have md : Mod K mg (hidT s₁.heap H) := by
      obtain ⟨mc, c1, c2⟩ := lim
      exact ⟨inB, nsOf hm, ⟨mb, nsOf hb, boot⟩, mc, nsOf c1, c2⟩
    have en : Env0 P w K mg (hidT s₁.heap H) callerA [] s₁ H := by
      refine ⟨rfl, md, fun b o g => of_hidT g, Nat.le_of_eq (hidT_size _ _), trivial, fun b m => ?_, ok, .of_eq quiet⟩
      cases m
    refine codeAny_mono (R _ s₁ H a ns (fun v _ => v = .bl true) (fun _ _ _ => False) inB (nsOf hm) en (bi s₁ (.ref a)) hn sq fun _ => rfl) fun r s2 z => ?_
    match r, z with
    | .ok (.ret u), ⟨v, H2, os, bare, un, ok2, ru, q⟩ =>
      have q' : v = .bl true := q
      subst q'
      obtain rfl : u = Value.bool true := ru
      refine ⟨rfl, OldK.of_keep fun b o g => ?_, os, bare⟩
      rcases only b with y | ⟨rfl, y, _⟩
      · refine un.keep b o g y (fun m => ?_) (fun m => ?_) <;> cases m
      · obtain ⟨e1, _⟩ := ok b _ y
        obtain ⟨e2, _⟩ := ok2 b _ (un.frzs b _ _ y)
        rw [g] at e1
        cases e1
        exact e2
    | .ok .next, z => exact False.elim z
    | .ok .brk, z => exact False.elim z
    | .ok .cont, z => exact False.elim z
    | .error e, z => exact False.elim z
  by_cases hk : ∃ o, K.lookup a = some o
  · obtain ⟨o, hk⟩ := hk
    have g := inK a o hk
    rw [obj] at g
    cases g
    exact main (fun _ => none) (fun _ => .inl rfl) (.inr ⟨_, vs.toArray, _, hk, rfl, rfl, rfl, by rw [List.size_toArray, len]; omega, by simpa using rel⟩)
  · have hk' : K.lookup a = none := by
      cases z : K.lookup a with
      | none => rfl
      | some o => exact absurd ⟨o, z⟩ hk
    refine main (fun b => if b = a then some (.frz { cls := .type "list", data := .seq vs.toArray } (.lst (ns.map V.int))) else none) (fun b => ?_) (.inl (.inr ⟨_, if_pos rfl⟩))
    by_cases e : b = a
    · exact .inr ⟨e, if_pos e, hk'⟩
    · exact .inl (if_neg e)
/-- the end of a proof whose law runs at its own place -/
theorem walk_at_place {l : PySem.W.OpenLaw} {n : Nat} {q : Program} {loose : List Str} {XP : (Str → Option Value) → Heap → Prop} {YP : World → Heap → Prop} {d : DefRec} {K : Params → PySem.W.Frag} {x : Str}
    (hn : l.most = some n) (hz : n ≤ sizeLine) (hdf : d.params.defaults = []) (hY : ∀ (w : World) (h : Heap), YP w h → (K w.params).In h)
    (F : ∀ (w : World) (mg : Str → Option Value) (fa : Addr) (h : Heap), (K w.params).In h → h.Ns mainGlobals mg → mg d.name = some (.ref fa) → ∃ fd : FuncData, (∀ (s : Shared) (u : Value), BindsTo s fd ⟨[u], []⟩ [(x, u)]) ∧ LawRun l.prog w (K w.params) mg fa fd x n) :
    PySem.W.WalkO q loose XP YP l.row.toRowW d [] (fun f vs => PySem.call f vs) := by
  refine Att.attach_call hn hdf fun w s₀ s₁ mg mb fa o pm cd doc a vs ns G Y ho hd hcd hmg hobj hints hlen hg => ?_
  have KX := hY w _ Y
  obtain ⟨fd, bi, R⟩ := F w mg fa _ KX G.T.g hmg
  exact LawRun.call R KX G.T.g G.T.b G.T.builtins G.T.nolimit hg hobj hints hlen hz bi
end L2
set_option maxHeartbeats 400000
namespace D7
open PySem PySem.Spec PyProof.Rows L2
/-! ### the text -/
def topS (i : Nat) : Stmt := PySem.Challenge.pw_drawloom_k27_postdominators.main.body.getD i (.Pass ⟨0, 0, 0, 0⟩)
abbrev s_targets : Stmt := topS 1
theorem sc_targets : FnScope ["end"] ["end"] (defScope s_targets) := ⟨rfl, rfl, rfl, by decide +kernel, rfl, by decide +kernel, by decide +kernel⟩
abbrev s_reached : Stmt := topS 3
theorem sc_reached : FnScope ["ways", "first", "node", "found", "waiting", "last"] ["ways", "first"] (defScope s_reached) := ⟨rfl, rfl, rfl, by decide +kernel, rfl, by decide +kernel, by decide +kernel⟩
abbrev s_leads_to : Stmt := topS 4
theorem sc_leads_to : FnScope ["graph", "_", "end"] ["graph"] (defScope s_leads_to) := ⟨rfl, rfl, rfl, by decide +kernel, rfl, by decide +kernel, by decide +kernel⟩
abbrev s_comes_from : Stmt := topS 5
theorem sc_comes_from : FnScope ["graph", "found", "node", "ways", "target", "_"] ["graph"] (defScope s_comes_from) := ⟨rfl, rfl, rfl, by decide +kernel, rfl, by decide +kernel, by decide +kernel⟩
abbrev s_outward_order : Stmt := topS 8
theorem sc_outward_order : FnScope ["root", "ways", "order", "seen", "stack", "followed", "node", "target"] ["root", "ways"] (defScope s_outward_order) := ⟨rfl, rfl, rfl, by decide +kernel, rfl, by decide +kernel, by decide +kernel⟩
abbrev s_meeting : Stmt := topS 9
theorem sc_meeting : FnScope ["found", "place", "one", "other"] ["found", "place", "one", "other"] (defScope s_meeting) := ⟨rfl, rfl, rfl, by decide +kernel, rfl, by decide +kernel, by decide +kernel⟩
abbrev s_immediate_ones : Stmt := topS 10
theorem sc_immediate_ones : FnScope ["root", "ways", "origins", "order", "node", "place", "found", "changed", "best", "origin", "index", "_"] ["root", "ways", "origins"] (defScope s_immediate_ones) := ⟨rfl, rfl, rfl, by decide +kernel, rfl, by decide +kernel, by decide +kernel⟩
abbrev s_postdominators : Stmt := topS 11
theorem sc_postdominators : FnScope ["graph", "ways", "origins", "last", "node", "exits", "found"] ["graph"] (defScope s_postdominators) := ⟨rfl, rfl, rfl, by decide +kernel, rfl, by decide +kernel, by decide +kernel⟩
abbrev s_region : Stmt := topS 12
theorem sc_region : FnScope ["graph", "b", "ways", "join", "kept", "targets", "target"] ["graph", "b"] (defScope s_region) := ⟨rfl, rfl, rfl, by decide +kernel, rfl, by decide +kernel, by decide +kernel⟩
abbrev s_law_stream : Stmt := topS 14
theorem sc_law_stream : FnScope ["script", "mixed", "cell"] ["script"] (defScope s_law_stream) := ⟨rfl, rfl, rfl, by decide +kernel, rfl, by decide +kernel, by decide +kernel⟩
abbrev s_law_draw : Stmt := topS 15
theorem sc_law_draw : FnScope ["stream", "many", "value"] ["stream", "many"] (defScope s_law_draw) := ⟨rfl, rfl, rfl, by decide +kernel, rfl, by decide +kernel, by decide +kernel⟩
abbrev s_law_word : Stmt := topS 16
theorem sc_law_word : FnScope ["stream"] ["stream"] (defScope s_law_word) := ⟨rfl, rfl, rfl, by decide +kernel, rfl, by decide +kernel, by decide +kernel⟩
abbrev s_law_frame : Stmt := topS 17
theorem sc_law_frame : FnScope ["stream", "rows", "shared", "k"] ["stream"] (defScope s_law_frame) := ⟨rfl, rfl, rfl, by decide +kernel, rfl, by decide +kernel, by decide +kernel⟩
abbrev s_law_kinds : Stmt := topS 18
theorem sc_law_kinds : FnScope ["frame", "kind", "found", "k"] ["frame", "kind"] (defScope s_law_kinds) := ⟨rfl, rfl, rfl, by decide +kernel, rfl, by decide +kernel, by decide +kernel⟩
abbrev s_law_instruction : Stmt := topS 19
theorem sc_law_instruction : FnScope ["stream", "many", "frame", "waits", "pick", "d", "r", "s", "fold", "ints", "arrays", "names", "array"] ["stream", "many", "frame", "waits"] (defScope s_law_instruction) := ⟨rfl, rfl, rfl, by decide +kernel, rfl, by decide +kernel, by decide +kernel⟩
abbrev s_law_ends : Stmt := topS 20
theorem sc_law_ends : FnScope ["stream", "count", "many", "k", "rows", "node", "free", "found", "more", "r"] ["stream", "count", "many"] (defScope s_law_ends) := ⟨rfl, rfl, rfl, by decide +kernel, rfl, by decide +kernel, by decide +kernel⟩
abbrev s_law_flow : Stmt := topS 21
theorem sc_law_flow : FnScope ["stream", "most", "waits", "many", "frame", "count", "ends", "nodes", "k", "rows", "j"] ["stream", "most", "waits"] (defScope s_law_flow) := ⟨rfl, rfl, rfl, by decide +kernel, rfl, by decide +kernel, by decide +kernel⟩
abbrev s_law_leads : Stmt := topS 22
theorem sc_law_leads : FnScope ["nodes", "found", "node", "end"] ["nodes"] (defScope s_law_leads) := ⟨rfl, rfl, rfl, by decide +kernel, rfl, by decide +kernel, by decide +kernel⟩
abbrev s_law_reached : Stmt := topS 23
theorem sc_law_reached : FnScope ["rows", "starts", "without", "found", "node", "waiting", "other"] ["rows", "starts", "without"] (defScope s_law_reached) := ⟨rfl, rfl, rfl, by decide +kernel, rfl, by decide +kernel, by decide +kernel⟩
abbrev s_law_ends_without : Stmt := topS 24
theorem sc_law_ends_without : FnScope ["rows", "exits", "b", "a", "node"] ["rows", "exits", "b", "a"] (defScope s_law_ends_without) := ⟨rfl, rfl, rfl, by decide +kernel, rfl, by decide +kernel, by decide +kernel⟩
abbrev s_law : Stmt := topS 25
theorem sc_law : FnScope ["script", "stream", "graph", "rows", "many", "exits", "due", "b", "found", "a", "own", "actual", "other", "k", "c"] ["script"] (defScope s_law) := ⟨rfl, rfl, rfl, by decide +kernel, rfl, by decide +kernel, by decide +kernel⟩
theorem pe_gq {X : Cx} {x : Str} {v : V} {pos : Pos} (hg : Gl X x) (h : ∃ u, X.mg x = some u ∧ RelV v u) (hd : (x == ("__debug__" : Str)) = false := by decide) : PE X (.Name x pos) (tC v) := by
  obtain ⟨u, hm, r⟩ := h
  exact pe_glob hg hm r hd
structure Tx (w : World) (K : PySem.W.Frag) (mg : Str → Option Value) where
  a_targets : Addr
  d_targets : FuncData
  F_targets : Fun K "targets" "targets" s_targets a_targets d_targets
  b_targets : Binds K d_targets ["end"] []
  g_targets : mg "targets" = some (.ref a_targets)
  a_reached : Addr
  d_reached : FuncData
  F_reached : Fun K "reached" "reached" s_reached a_reached d_reached
  b_reached : Binds K d_reached ["ways", "first"] []
  g_reached : mg "reached" = some (.ref a_reached)
  a_leads_to : Addr
  d_leads_to : FuncData
  F_leads_to : Fun K "leads_to" "leads_to" s_leads_to a_leads_to d_leads_to
  b_leads_to : Binds K d_leads_to ["graph"] []
  g_leads_to : mg "leads_to" = some (.ref a_leads_to)
  a_comes_from : Addr
  d_comes_from : FuncData
  F_comes_from : Fun K "comes_from" "comes_from" s_comes_from a_comes_from d_comes_from
  b_comes_from : Binds K d_comes_from ["graph"] []
  g_comes_from : mg "comes_from" = some (.ref a_comes_from)
  a_outward_order : Addr
  d_outward_order : FuncData
  F_outward_order : Fun K "outward_order" "outward_order" s_outward_order a_outward_order d_outward_order
  b_outward_order : Binds K d_outward_order ["root", "ways"] []
  g_outward_order : mg "outward_order" = some (.ref a_outward_order)
  a_meeting : Addr
  d_meeting : FuncData
  F_meeting : Fun K "meeting" "meeting" s_meeting a_meeting d_meeting
  b_meeting : Binds K d_meeting ["found", "place", "one", "other"] []
  g_meeting : mg "meeting" = some (.ref a_meeting)
  a_immediate_ones : Addr
  d_immediate_ones : FuncData
  F_immediate_ones : Fun K "immediate_ones" "immediate_ones" s_immediate_ones a_immediate_ones d_immediate_ones
  b_immediate_ones : Binds K d_immediate_ones ["root", "ways", "origins"] []
  g_immediate_ones : mg "immediate_ones" = some (.ref a_immediate_ones)
  a_postdominators : Addr
  d_postdominators : FuncData
  F_postdominators : Fun K "postdominators" "postdominators" s_postdominators a_postdominators d_postdominators
  b_postdominators : Binds K d_postdominators ["graph"] []
  g_postdominators : mg "postdominators" = some (.ref a_postdominators)
  a_region : Addr
  d_region : FuncData
  F_region : Fun K "region" "region" s_region a_region d_region
  b_region : Binds K d_region ["graph", "b"] []
  g_region : mg "region" = some (.ref a_region)
  a_law_stream : Addr
  d_law_stream : FuncData
  F_law_stream : Fun K "_law_stream" "_law_stream" s_law_stream a_law_stream d_law_stream
  b_law_stream : Binds K d_law_stream ["script"] []
  g_law_stream : mg "_law_stream" = some (.ref a_law_stream)
  a_law_draw : Addr
  d_law_draw : FuncData
  F_law_draw : Fun K "_law_draw" "_law_draw" s_law_draw a_law_draw d_law_draw
  b_law_draw : Binds K d_law_draw ["stream", "many"] []
  g_law_draw : mg "_law_draw" = some (.ref a_law_draw)
  a_law_word : Addr
  d_law_word : FuncData
  F_law_word : Fun K "_law_word" "_law_word" s_law_word a_law_word d_law_word
  b_law_word : Binds K d_law_word ["stream"] []
  g_law_word : mg "_law_word" = some (.ref a_law_word)
  a_law_frame : Addr
  d_law_frame : FuncData
  F_law_frame : Fun K "_law_frame" "_law_frame" s_law_frame a_law_frame d_law_frame
  b_law_frame : Binds K d_law_frame ["stream"] []
  g_law_frame : mg "_law_frame" = some (.ref a_law_frame)
  a_law_kinds : Addr
  d_law_kinds : FuncData
  F_law_kinds : Fun K "_law_kinds" "_law_kinds" s_law_kinds a_law_kinds d_law_kinds
  b_law_kinds : Binds K d_law_kinds ["frame", "kind"] []
  g_law_kinds : mg "_law_kinds" = some (.ref a_law_kinds)
  a_law_instruction : Addr
  d_law_instruction : FuncData
  F_law_instruction : Fun K "_law_instruction" "_law_instruction" s_law_instruction a_law_instruction d_law_instruction
  b_law_instruction : Binds K d_law_instruction ["stream", "many", "frame", "waits"] []
  g_law_instruction : mg "_law_instruction" = some (.ref a_law_instruction)
  a_law_ends : Addr
  d_law_ends : FuncData
  F_law_ends : Fun K "_law_ends" "_law_ends" s_law_ends a_law_ends d_law_ends
  b_law_ends : Binds K d_law_ends ["stream", "count", "many"] []
  g_law_ends : mg "_law_ends" = some (.ref a_law_ends)
  a_law_flow : Addr
  d_law_flow : FuncData
  F_law_flow : Fun K "_law_flow" "_law_flow" s_law_flow a_law_flow d_law_flow
  b_law_flow : Binds K d_law_flow ["stream", "most", "waits"] []
  g_law_flow : mg "_law_flow" = some (.ref a_law_flow)
  a_law_leads : Addr
  d_law_leads : FuncData
  F_law_leads : Fun K "_law_leads" "_law_leads" s_law_leads a_law_leads d_law_leads
  b_law_leads : Binds K d_law_leads ["nodes"] []
  g_law_leads : mg "_law_leads" = some (.ref a_law_leads)
  a_law_reached : Addr
  d_law_reached : FuncData
  F_law_reached : Fun K "_law_reached" "_law_reached" s_law_reached a_law_reached d_law_reached
  b_law_reached : Binds K d_law_reached ["rows", "starts", "without"] []
  g_law_reached : mg "_law_reached" = some (.ref a_law_reached)
  a_law_ends_without : Addr
  d_law_ends_without : FuncData
  F_law_ends_without : Fun K "_law_ends_without" "_law_ends_without" s_law_ends_without a_law_ends_without d_law_ends_without
  b_law_ends_without : Binds K d_law_ends_without ["rows", "exits", "b", "a"] []
  g_law_ends_without : mg "_law_ends_without" = some (.ref a_law_ends_without)
  a_law : Addr
  d_law : FuncData
  F_law : Fun K "law" "law" s_law a_law d_law
  g_law : mg "law" = some (.ref a_law)
  z_abs : mg "abs" = none
  z_bool : mg "bool" = none
  z_enumerate : mg "enumerate" = none
  z_int : mg "int" = none
  z_isinstance : mg "isinstance" = none
  z_len : mg "len" = none
  z_list : mg "list" = none
  z_max : mg "max" = none
  z_range : mg "range" = none
  z_repr : mg "repr" = none
  z_sorted : mg "sorted" = none
  z_tuple : mg "tuple" = none
  q_NO_NODE : ∃ u, mg "NO_NODE" = some u ∧ RelV (.int (-1)) u
def rLenS (K : PySem.W.Frag) : List V → Hp → VK → Prop := fun us H Q => ∃ a ys, us = [.ref a] ∧ (SqL K H a ys ∨ SqT K H a ys) ∧ Q (.int ys.length) H
def rListOf (K : PySem.W.Frag) : List V → Hp → VK → Prop := fun us H Q => ∃ a ys, us = [.ref a] ∧ (SqL K H a ys ∨ SqT K H a ys) ∧ ∀ b, H b = none → Q (.ref b) (upd H b (.lst ys))
def rTupOf (K : PySem.W.Frag) : List V → Hp → VK → Prop := fun us H Q => ∃ a ys, us = [.ref a] ∧ ((SqL K H a ys ∧ ∀ b, H b = none → Q (.ref b) (upd H b (.tup ys))) ∨ (SqT K H a ys ∧ Q (.ref a) H))
theorem same_new5 {H : Hp} {p : Addr} {o : HO} (h : H p = none) : Same H (upd H p o) := fun b x e => by
  rw [upd_ne (ne_of_none e h)]
  exact e
section
variable {P : Program} {w : World} {K : PySem.W.Frag} {mg : Str → Option Value} {base : Heap}

/-! ### the law's stream of draws -/
/-- at p: a stream; which numbers it gives is left open -/
def Strm (q : Addr) (H : Hp) (p : Addr) : Prop := ∃ (cur pos mixed : Int) (ns : List Int), H p = some (.lst [.ref q, .int cur, .int pos, .int mixed]) ∧ H q = some (.lst (ns.map V.int)) ∧
  0 ≤ cur ∧ 0 ≤ pos ∧ pos ≤ ns.length ∧ ns.length ≤ 63 ∧ 0 ≤ mixed ∧ mixed < 2147483647
def But (p : Addr) (H H' : Hp) : Prop := ∀ b o, b ≠ p → H b = some o → H' b = some o
theorem But.refl {p : Addr} {H : Hp} : But p H H := fun _ _ _ h => h
theorem But.trans {p : Addr} {H H1 H2 : Hp} (a : But p H H1) (b : But p H1 H2) : But p H H2 := fun c o n h => b c o n (a c o n h)
theorem But.same {p : Addr} {H H1 H2 : Hp} (a : But p H H1) (b : Same H1 H2) : But p H H2 := fun c o n h => b c o (a c o n h)
theorem But.upd {p : Addr} {H H1 : Hp} {o : HO} (a : But p H H1) : But p H (L2.upd H1 p o) := fun c u n h => by rw [upd_ne n]; exact a c u n h
theorem same_new {H : Hp} {p : Addr} {o : HO} (h : H p = none) : Same H (upd H p o) := fun b x e => by
  rw [upd_ne (ne_of_none e h)]
  exact e
theorem Strm.same {q : Addr} {H H' : Hp} {p : Addr} (s : Strm q H p) (h : Same H H') : Strm q H' p := by
  obtain ⟨cur, pos, mixed, ns, e1, e2, r⟩ := s
  exact ⟨cur, pos, mixed, ns, h _ _ e1, h _ _ e2, r⟩
theorem Strm.upd {q : Addr} {H : Hp} {p D : Addr} {o : HO} (s : Strm q H p) (np : D ≠ p) (nq : D ≠ q) : Strm q (upd H D o) p := by
  obtain ⟨cur, pos, mixed, ns, e1, e2, r⟩ := s
  exact ⟨cur, pos, mixed, ns, by rw [upd_ne np.symm]; exact e1, by rw [upd_ne nq.symm]; exact e2, r⟩
theorem Strm.nep {q : Addr} {H : Hp} {p D : Addr} (s : Strm q H p) (h : H D = none) : D ≠ p := fun e => by
  obtain ⟨cur, pos, mixed, ns, e1, _⟩ := s
  rw [e, e1] at h
  cases h
theorem Strm.neq {q : Addr} {H : Hp} {p D : Addr} (s : Strm q H p) (h : H D = none) : D ≠ q := fun e => by
  obtain ⟨cur, pos, mixed, ns, _, e2, _⟩ := s
  rw [e, e2] at h
  cases h
theorem Strm.pq {q : Addr} {H : Hp} {p : Addr} (s : Strm q H p) : q ≠ p := fun z => by
  obtain ⟨cur, pos, mixed, ns, e1, e2, _⟩ := s
  rw [z, e1] at e2
  cases ns with
  | nil => cases e2
  | cons x r => cases e2
def sp_law_stream (K : PySem.W.Frag) : Sp := fun vs H Q _ => ∃ (a : Addr) (ns : List Int), vs = [.ref a] ∧ SqL K H a (ns.map V.int) ∧ ns.length ≤ 63 ∧ ∀ H' p q, Same H H' → H p = none → H q = none → Strm q H' p → Q (.ref p) H'
def sp_law_draw : Sp := fun vs H Q _ => ∃ (p q : Addr) (many : Int), vs = [.ref p, .int many] ∧ Strm q H p ∧ 0 < many ∧ many < 2 ^ 100 ∧ ∀ (v : Int) H', 0 ≤ v → v < many → But p H H' → Strm q H' p → Q (.int v) H'
theorem ok_law_stream (T : Tx w K mg) : FnOk P w K mg base CX0 1 T.a_law_stream T.d_law_stream ["script"] (sp_law_stream K) := by
  refine T.F_law_stream.ok sc_law_stream (fun vs H Q E h => ?_) (fun cdv A outer s H vs Q E hr h => ?_)
  · obtain ⟨a, ns, rfl, _⟩ := h
    rfl
  · obtain ⟨a, ns, rfl, hS, hlen, q⟩ := h
    refine ⟨_, (pss_cons (ps_set (i := 1) sc_law_stream.nd rfl (.inl rfl) pe_int)
      (pss_cons (ps_for PassesOwn.never rfl (pi_list (pv 0)) (pg_name (i := 2) sc_law_stream.nd rfl (.inl rfl)) (pss_one (ps_set (i := 1) sc_law_stream.nd rfl (.inl rfl) (pe_op op_mod (pe_callTy call_int1 (by rfl) T.z_int (by decide +kernel) (pa_cons (pe_op op_add (pe_op op_add (pe_op op_mul (pv 1) pe_int) (pe_op op_mod (pe_callTy call_int1 (by rfl) T.z_int (by decide +kernel) (pa_cons (pv 2) pa_nil)) pe_int)) pe_int) pa_nil)) pe_int))))
      (pss_one (ps_ret (pe_lst (pa_cons (pe_callTy call_list_of (by rfl) T.z_list (by decide +kernel) (pa_cons (pv 0) pa_nil)) (pa_cons pe_int (pa_cons pe_int (pa_cons (pv 1) pa_nil))))))))), ?_⟩
    refine ⟨_, rfl, a, rfl, ⟨_, hS⟩, for_list (K := K) (a := a) (xs := ns.map V.int) (fun i σ H' => ∃ (m : Int) (c : Option V), σ = [some (.ref a), some (.int m), c] ∧ 0 ≤ m ∧ m < 2147483647 ∧ H' = H) ⟨17, none, rfl, by decide, by decide, rfl⟩ (fun i σ H' _ ⟨_, _, _, _, _, e⟩ => by rw [e]; exact hS) ?_ ?_⟩
    · rintro i x σ H' hx ⟨m, c, rfl, h0, h1, rfl⟩
      obtain ⟨n, rfl⟩ : ∃ n, x = V.int n := by
        rw [List.getElem?_map] at hx
        cases e : ns[i]? with
        | none => rw [e] at hx; cases hx
        | some u => rw [e] at hx; exact ⟨u, (Option.some.inj hx).symm⟩
      refine ⟨_, rfl, _, _, rfl, rfl, .inl ⟨by omega, by omega⟩, _, rfl, .inl ⟨_, rfl, _, _, rfl, rfl, (by show (0 : Int) < 65521; decide), _, _, rfl, rfl, _, _, rfl, rfl, .inl ⟨_, rfl, _, _, rfl, rfl, (by show (0 : Int) < 2147483647; decide), ?_⟩⟩⟩
      exact ⟨_, _, rfl, Int.emod_nonneg _ (by decide), Int.emod_lt_of_pos _ (by decide), rfl⟩
    · rintro σ H' ⟨m, c, rfl, h0, h1, rfl⟩
      refine ⟨_, rfl, a, _, rfl, .inl hS, fun l nl => ⟨_, rfl, (by show 4 ≤ sizeLine; decide), fun p np => ?_⟩⟩
      have npl : p ≠ l := fun e => by rw [e, upd_same] at np; cases np
      have np0 : H' p = none := by rw [upd_ne npl] at np; exact np
      refine q _ p l ((same_new nl).trans (same_new np)) np0 nl ⟨0, 0, m, ns, upd_same, ?_, by decide, by decide, by omega, hlen, h0, h1⟩
      rw [upd_ne npl.symm, upd_same]
theorem ok_law_draw (T : Tx w K mg) : FnOk P w K mg base CX0 1 T.a_law_draw T.d_law_draw ["stream", "many"] sp_law_draw := by
  refine T.F_law_draw.ok sc_law_draw (fun vs H Q E h => ?_) (fun cdv A outer s H vs Q E hr h => ?_)
  · obtain ⟨p, q, many, rfl, _⟩ := h
    rfl
  · obtain ⟨p, q, many, rfl, hS, hm0, hm1, k⟩ := h
    refine ⟨_, (C8.pss_cut (ps_if (PW.pt (pw_and (pt_cmpR op_eq (pe_ix ix_list (pv 0) pe_int (fun _ _ => rfl)) pe_int (nomark _)) (pw_and1 (pt_cmpR op_lt (pe_ix ix_list (pv 0) pe_int (fun _ _ => rfl)) (pe_callB call_len_seq (by rfl) T.z_len (by decide +kernel) (pa_cons (pe_ix ix_list (pv 0) pe_int (fun _ _ => rfl)) pa_nil)) (nomark _))))) (pss_cons (ps_asg (pe_callB call_abs (by rfl) T.z_abs (by decide +kernel) (pa_cons (pe_callTy call_int1 (by rfl) T.z_int (by decide +kernel) (pa_cons (pe_ix ix_list (pe_ix ix_list (pv 0) pe_int (fun _ _ => rfl)) (pe_ix ix_list (pv 0) pe_int (fun _ _ => rfl)) (fun _ _ => rfl)) pa_nil)) pa_nil)) (pg_sub (pv 0) pe_int set_list))
      (pss_one (ps_asg (pe_op op_add (pe_ix ix_list (pv 0) pe_int (fun _ _ => rfl)) pe_int) (pg_sub (pv 0) pe_int set_list)))) pss_nil)
      (pss_cons (ps_if (pt_cmpR op_eq (pe_ix ix_list (pv 0) pe_int (fun _ _ => rfl)) pe_int (nomark _)) (pss_cons (ps_asg (pe_op op_mod (pe_callTy call_int1 (by rfl) T.z_int (by decide +kernel) (pa_cons (pe_op op_add (pe_op op_mul (pe_ix ix_list (pv 0) pe_int (fun _ _ => rfl)) pe_int) pe_int) pa_nil)) pe_int) (pg_sub (pv 0) pe_int set_list))
      (pss_one (ps_ret (pe_op op_mod (pe_callTy call_int1 (by rfl) T.z_int (by decide +kernel) (pa_cons (pe_op op_fdivW (pe_ix ix_list (pv 0) pe_int (fun _ _ => rfl)) pe_int) pa_nil)) (pv 1))))) pss_nil)
      (pss_cons (ps_set (i := 2) sc_law_draw.nd rfl (.inl rfl) (pe_op op_mod (pe_callTy call_int1 (by rfl) T.z_int (by decide +kernel) (pa_cons (pe_ix ix_list (pv 0) pe_int (fun _ _ => rfl)) pa_nil)) (pv 1)))
      (pss_cons (ps_asg (pe_op op_fdivW (pe_ix ix_list (pv 0) pe_int (fun _ _ => rfl)) (pv 1)) (pg_sub (pv 0) pe_int set_list))
      (pss_one (ps_ret (pv 2))))))), ?_⟩
    refine ⟨fun σ' H' => σ' = [some (.ref p), some (.int many), none] ∧ But p H H' ∧ Strm q H' p, ?_, ?_⟩
    · have hS0 := hS
      obtain ⟨cur, pos, mixed, ns, e1, e2, c0, p0, p1, l63, m0, m1⟩ := hS
      have nqp : q ≠ p := hS0.pq
      refine ⟨_, rfl, p, _, 1, _, rfl, rfl, SqL.of e1, rfl, rfl, _, rfl, ite2 (fun z1 => ?_) (fun z1 => iteF ⟨rfl, .refl, hS0⟩)⟩
      refine ⟨_, rfl, p, _, 2, _, rfl, rfl, SqL.of e1, rfl, _, rfl, p, _, 0, _, rfl, rfl, SqL.of e1, rfl, q, _, rfl, .inl (SqL.of e2), _, _, rfl, rfl, _, rfl, ite2 (fun z2 => ?_) (fun z2 => ⟨rfl, .refl, hS0⟩)⟩
      have hlt : pos < ns.length := by
        have z3 := of_decide_eq_true z2
        rw [List.length_map] at z3
        exact z3
      obtain ⟨j, rfl⟩ : ∃ j : Nat, pos = (j : Int) := ⟨pos.toNat, by omega⟩
      have hj : j < ns.length := by omega
      have g : (ns.map V.int)[j]? = some (.int ns[j]) := by
        rw [List.getElem?_map, List.getElem?_eq_getElem hj]
        rfl
      refine ⟨_, rfl, p, _, 0, _, rfl, rfl, SqL.of e1, rfl, _, rfl, p, _, 2, _, rfl, rfl, SqL.of e1, rfl, q, _, _, _, rfl, rfl, SqL.of e2, atI_nat g, .inl ⟨_, rfl, _, rfl, ?_⟩⟩
      refine ⟨_, rfl, p, _, 1, 1, rfl, rfl, e1, rfl, ?_⟩
      refine ⟨_, rfl, p, _, 2, _, rfl, rfl, SqL.of upd_same, rfl, _, _, rfl, rfl, _, rfl, p, _, 2, 2, rfl, rfl, upd_same, rfl, ?_⟩
      refine ⟨rfl, But.upd (But.upd .refl), (if ns[j] < 0 then -ns[j] else ns[j]), (j : Int) + 1, mixed, ns, upd_same, ?_, by split <;> omega, by omega, by omega, l63, m0, m1⟩
      rw [upd_ne nqp, upd_ne nqp]
      exact e2
    · rintro σ' H' ⟨rfl, hB, hS2⟩
      have nqp : q ≠ p := hS2.pq
      obtain ⟨cur, pos, mixed, ns, e1, e2, c0, p0, p1, l63, m0, m1⟩ := hS2
      refine ⟨_, rfl, p, _, 1, _, rfl, rfl, SqL.of e1, rfl, rfl, _, rfl, ite2 (fun z1 => ?_) (fun z1 => ?_)⟩
      · refine ⟨_, rfl, p, _, 3, _, rfl, rfl, SqL.of e1, rfl, _, _, rfl, rfl, .inl ⟨by omega, by omega⟩, _, _, rfl, rfl, .inl ⟨_, rfl, _, _, rfl, rfl, (by show (0 : Int) < 2147483647; decide), ?_⟩⟩
        refine ⟨_, rfl, p, _, 3, 3, rfl, rfl, e1, rfl, ?_⟩
        refine ⟨_, rfl, p, _, 3, _, rfl, rfl, SqL.of upd_same, rfl, _, _, rfl, rfl, wide_div (b := 8) (by decide) (by decide) (by decide) (by decide), .inl ⟨_, rfl, _, rfl, _, _, rfl, rfl, hm0, ?_⟩⟩
        refine k _ _ (Int.emod_nonneg _ (by omega)) (Int.emod_lt_of_pos _ hm0) (But.upd hB) ⟨cur, pos, _, ns, upd_same, by rw [upd_ne nqp]; exact e2, c0, p0, p1, l63, Int.emod_nonneg _ (by decide), Int.emod_lt_of_pos _ (by decide)⟩
      · refine ⟨_, rfl, p, _, 1, _, rfl, rfl, SqL.of e1, rfl, .inl ⟨_, rfl, _, rfl, _, _, rfl, rfl, hm0, ?_⟩⟩
        have hw : CDivW cur many := wide_div (b := 100) hm0 (by omega) (by decide) (by decide)
        refine ⟨_, rfl, p, _, 1, _, rfl, rfl, SqL.of e1, rfl, _, rfl, _, _, rfl, rfl, hw, _, rfl, p, _, 1, 1, rfl, rfl, e1, rfl, _, rfl, ?_⟩
        exact k _ _ (Int.emod_nonneg _ (by omega)) (Int.emod_lt_of_pos _ hm0) (But.upd hB) ⟨_, pos, _, ns, upd_same, by rw [upd_ne nqp]; exact e2, Int.ediv_nonneg c0 (by omega), p0, p1, l63, m0, m1⟩
/-! ### a bag of data beside the stream -/
def lstOf (H : Hp) (a : Addr) : List V := match H a with
  | some (.lst xs) => xs
  | _ => []
theorem lstOf_eq {H : Hp} {a : Addr} {xs : List V} (h : H a = some (.lst xs)) : lstOf H a = xs := by
  show (match H a with | some (.lst xs) => xs | _ => []) = xs
  rw [h]
/-- what may change: the stream, and the def's own objects -/
def Mm (X : Addr → Prop) (ma : List Addr) (b : Addr) : Prop := X b ∨ b ∈ ma
/-- at p: a stream; X: what may change from without, p too -/
structure Ext (q p : Addr) (X : Addr → Prop) (H : Hp) : Prop where
  str : Strm q H p
  xp : X p
  xd : ∀ b, X b → H b ≠ none
/-- ma: what the def has made and may change; ps: data that stands; ls: lists of data, by their addresses -/
structure St (K : PySem.W.Frag) (q p : Addr) (X : Addr → Prop) (ma : List Addr) (H0 H : Hp) (ps : List (V × PyData)) (ls : List (Addr × List PyData)) : Prop where
  off : But p H0 H
  xp : X p
  xd : ∀ b, X b → H0 b ≠ none
  old : Strm q H0 p
  own : ∀ b ∈ ma, H0 b = none ∧ H b ≠ none
  str : Strm q H p
  bag : ∀ x ∈ ps, Dt (Mm X ma) K H x.1 x.2
  lst : ∀ x ∈ ls, ¬ X x.1 ∧ ∃ xs, H x.1 = some (.lst xs) ∧ DtAll (Mm X ma) K H xs x.2
  nod : (ls.map (·.1)).Nodup
section
variable {K : PySem.W.Frag} {q p : Addr} {X : Addr → Prop} {ma : List Addr} {H0 H H' : Hp} {ps : List (V × PyData)} {ls : List (Addr × List PyData)}
theorem offBut (xp : X p) (b : But p H H') : Off (Mm X ma) H H' := fun c u n h => b c u (fun e => n (.inl (e ▸ xp))) h
theorem St.get (S : St K q p X ma H0 H ps ls) {v : V} {d : PyData} (h : (v, d) ∈ ps) : Dt (Mm X ma) K H v d := S.bag (v, d) h
theorem St.getL (S : St K q p X ma H0 H ps ls) {a : Addr} {ds : List PyData} (h : (a, ds) ∈ ls) : H a = some (.lst (lstOf H a)) ∧ DtAll (Mm X ma) K H (lstOf H a) ds := by
  obtain ⟨_, xs, e, r⟩ := S.lst (a, ds) h
  rw [lstOf_eq e]
  exact ⟨e, r⟩
theorem St.list (S : St K q p X ma H0 H ps ls) {a : Addr} {ds : List PyData} (h : (a, ds) ∈ ls) (n : a ∉ ma) : Dt (Mm X ma) K H (.ref a) (.list ds) := .laidL (fun z => z.elim (S.lst (a, ds) h).1 n) (S.getL h).1 (S.getL h).2
theorem St.same (S : St K q p X ma H0 H ps ls) (s : Same H H') : St K q p X ma H0 H' ps ls := by
  refine ⟨S.off.same s, S.xp, S.xd, S.old, fun b m => ⟨(S.own b m).1, fun z => ?_⟩, S.str.same s, fun x hx => (S.bag x hx).off (.of s), fun x hx => ?_, S.nod⟩
  · cases e : H b with
    | none => exact (S.own b m).2 e
    | some o => rw [s _ _ e] at z; cases z
  · obtain ⟨n, xs, e, r⟩ := S.lst x hx
    exact ⟨n, xs, s _ _ e, r.off (.of s)⟩
theorem St.draw (S : St K q p X ma H0 H ps ls) (b : But p H H') (s : Strm q H' p) : St K q p X ma H0 H' ps ls := by
  refine ⟨S.off.trans b, S.xp, S.xd, S.old, fun c m => ⟨(S.own c m).1, fun z => ?_⟩, s, fun x hx => (S.bag x hx).off (offBut S.xp b), fun x hx => ?_, S.nod⟩
  · have e : c ≠ p := fun e => by
      obtain ⟨_, _, _, _, e1, _⟩ := s
      rw [e, e1] at z
      cases z
    cases e2 : H c with
    | none => exact (S.own c m).2 e2
    | some o => rw [b c o e e2] at z; cases z
  · obtain ⟨n, xs, e, r⟩ := S.lst x hx
    exact ⟨n, xs, b _ _ (fun z => n (by rw [z]; exact S.xp)) e, r.off (offBut S.xp b)⟩
theorem St.hp (S : St K q p X ma H0 H ps ls) : H p ≠ none := fun z => by
  obtain ⟨_, _, _, _, e1, _⟩ := S.str
  rw [e1] at z
  cases z
theorem St.p0 (S : St K q p X ma H0 H ps ls) : H0 p ≠ none := fun z => by
  obtain ⟨_, _, _, _, e1, _⟩ := S.old
  rw [e1] at z
  cases z
theorem St.q0 (S : St K q p X ma H0 H ps ls) : H0 q ≠ none := fun z => by
  obtain ⟨_, _, _, _, _, e1, _⟩ := S.old
  rw [e1] at z
  cases z
theorem St.xh (S : St K q p X ma H0 H ps ls) {b : Addr} (x : X b) : H b ≠ none := fun z => by
  by_cases e : b = p
  · exact S.hp (e ▸ z)
  · cases e2 : H0 b with
    | none => exact S.xd b x e2
    | some o => rw [S.off b o e e2] at z; cases z
theorem St.new (S : St K q p X ma H0 H ps ls) {t : Addr} (n : H t = none) : ¬ Mm X ma t := fun m => m.elim (fun e => S.xh e n) fun m => (S.own t m).2 n
theorem St.new0 (S : St K q p X ma H0 H ps ls) {t : Addr} (n : H t = none) : H0 t = none := by
  cases e : H0 t with
  | none => rfl
  | some o => rw [S.off t o (fun z => S.hp (z ▸ n)) e] at n; cases n
theorem St.newL (S : St K q p X ma H0 H ps ls) {t : Addr} (n : H t = none) : t ∉ ls.map (·.1) := fun m => by
  obtain ⟨x, hx, e⟩ := List.mem_map.mp m
  obtain ⟨_, xs, e2, _⟩ := S.lst x hx
  rw [e, n] at e2
  cases e2
theorem St.put (S : St K q p X ma H0 H ps ls) {v : V} {d : PyData} (h : Dt (Mm X ma) K H v d) : St K q p X ma H0 H ((v, d) :: ps) ls :=
  ⟨S.off, S.xp, S.xd, S.old, S.own, S.str, fun x hx => (List.mem_cons.mp hx).elim (fun e => e ▸ h) (S.bag x), S.lst, S.nod⟩
theorem St.tup' (S : St K q p X ma H0 H ps ls) {t : Addr} {xs : List V} {ds : List PyData} (n : H t = none) (e : L2.upd H t (.tup xs) = H') (h : DtAll (Mm X ma) K H xs ds) : St K q p X ma H0 H' ((.ref t, .tuple ds) :: ps) ls := by
  subst e
  have s : Same H (L2.upd H t (.tup xs)) := same_new5 n
  exact (S.same s).put (.laid (S.new n) upd_same (h.off (.of s)))
theorem St.putL (S : St K q p X ma H0 H ps ls) {t : Addr} {xs : List V} {ds : List PyData} (n : ¬ X t) (m : t ∉ ls.map (·.1)) (e : H t = some (.lst xs)) (h : DtAll (Mm X ma) K H xs ds) : St K q p X ma H0 H ps ((t, ds) :: ls) :=
  ⟨S.off, S.xp, S.xd, S.old, S.own, S.str, S.bag, fun x hx => (List.mem_cons.mp hx).elim (fun z => by subst z; exact ⟨n, xs, e, h⟩) (S.lst x), List.nodup_cons.mpr ⟨m, S.nod⟩⟩
theorem St.lst' (S : St K q p X ma H0 H ps ls) {t : Addr} {xs : List V} {ds : List PyData} (n : H t = none) (e : L2.upd H t (.lst xs) = H') (h : DtAll (Mm X ma) K H xs ds) : St K q p X ma H0 H' ps ((t, ds) :: ls) := by
  subst e
  have s : Same H (L2.upd H t (.lst xs)) := same_new5 n
  exact (S.same s).putL (fun z => S.xh z n) (S.newL n) upd_same (h.off (.of s))
/-- a new object that the def may change: no data holds it -/
theorem St.own' (S : St K q p X ma H0 H ps ls) {t : Addr} (n : H t = none) (s : Same H H') (o : H' t ≠ none) : St K q p X (t :: ma) H0 H' ps ls := by
  have S' := S.same s
  have more : ∀ b, Mm X (t :: ma) b → Mm X ma b ∨ H b = none := fun b m => by
    rcases m with m | m
    · exact .inl (.inl m)
    · rcases List.mem_cons.mp m with m | m
      · exact .inr (m ▸ n)
      · exact .inl (.inr m)
  refine ⟨S'.off, S.xp, S.xd, S.old, fun b m => ?_, S'.str, fun x hx => ((S.bag x hx).more more).off (.of s), fun x hx => ?_, S.nod⟩
  · rcases List.mem_cons.mp m with m | m
    · rw [m]
      exact ⟨S.new0 n, o⟩
    · exact S'.own b m
  · obtain ⟨ne, xs, e, r⟩ := S.lst x hx
    exact ⟨ne, xs, s _ _ e, (r.more more).off (.of s)⟩
/-- a new list that the def may change -/
theorem St.mut' (S : St K q p X ma H0 H ps ls) {t : Addr} {xs : List V} {ds : List PyData} (n : H t = none) (e : L2.upd H t (.lst xs) = H') (h : DtAll (Mm X ma) K H xs ds) : St K q p X (t :: ma) H0 H' ps ((t, ds) :: ls) := by
  subst e
  have s : Same H (L2.upd H t (.lst xs)) := same_new5 n
  have S' := S.own' n s (by rw [upd_same]; intro z; cases z)
  refine S'.putL (fun z => S.xh z n) (S.newL n) upd_same ((h.more fun b m => ?_).off (.of s))
  rcases m with m | m
  · exact .inl (.inl m)
  · rcases List.mem_cons.mp m with m | m
    · exact .inr (m ▸ n)
    · exact .inl (.inr m)
/-- nothing changes what is only made -/
theorem St.calm (S : St K q p X ma H0 H ps ls) {mb : List Addr} (h : ∀ b ∈ mb, b ∈ ma) : St K q p X mb H0 H ps ls := by
  have more : ∀ b, Mm X mb b → Mm X ma b ∨ H b = none := fun b m => m.elim (fun m => .inl (.inl m)) fun m => .inl (.inr (h b m))
  refine ⟨S.off, S.xp, S.xd, S.old, fun b m => S.own b (h b m), S.str, fun x hx => (S.bag x hx).more more, fun x hx => ?_, S.nod⟩
  obtain ⟨ne, xs, e, r⟩ := S.lst x hx
  exact ⟨ne, xs, e, r.more more⟩
/-- a change of an own object that is no list of ls -/
theorem St.chg (S : St K q p X ma H0 H ps ls) {t : Addr} {o : HO} (m : t ∈ ma) (n : t ∉ ls.map (·.1)) : St K q p X ma H0 (L2.upd H t o) ps ls := by
  have tp : t ≠ p := fun z => S.p0 (z ▸ (S.own t m).1)
  have tq : t ≠ q := fun z => S.q0 (z ▸ (S.own t m).1)
  have off : Off (Mm X ma) H (L2.upd H t o) := fun b u nb hb => by
    have nt : b ≠ t := fun e => nb (.inr (by rw [e]; exact m))
    rw [upd_ne nt]; exact hb
  refine ⟨fun b u nb hb => ?_, S.xp, S.xd, S.old, fun b mb => ⟨(S.own b mb).1, fun z => ?_⟩, S.str.upd tp tq, fun x hx => (S.bag x hx).off off, fun x hx => ?_, S.nod⟩
  · rw [upd_ne (fun e => by rw [e, (S.own t m).1] at hb; cases hb)]
    exact S.off b u nb hb
  · by_cases e : b = t
    · rw [e, upd_same] at z; cases z
    · rw [upd_ne e] at z; exact (S.own b mb).2 z
  · obtain ⟨ne, xs, e, r⟩ := S.lst x hx
    exact ⟨ne, xs, by rw [upd_ne (fun z => n (List.mem_map.mpr ⟨x, hx, z⟩))]; exact e, r.off off⟩
/-- the first list of ls becomes another one -/
theorem St.upd1 {t : Addr} {ds es : List PyData} {xs : List V} (S : St K q p X ma H0 H ps ((t, ds) :: ls)) (m : t ∈ ma) (h : DtAll (Mm X ma) K H xs es) : St K q p X ma H0 (L2.upd H t (.lst xs)) ps ((t, es) :: ls) := by
  have nd := List.nodup_cons.mp S.nod
  have S' : St K q p X ma H0 H ps ls := ⟨S.off, S.xp, S.xd, S.old, S.own, S.str, S.bag, fun x hx => S.lst x (.tail _ hx), nd.2⟩
  have off : Off (Mm X ma) H (L2.upd H t (.lst xs)) := fun b u nb hb => by
    have nt : b ≠ t := fun e => nb (.inr (by rw [e]; exact m))
    rw [upd_ne nt]; exact hb
  exact (S'.chg m nd.1).putL (S.lst _ (.head _)).1 nd.1 upd_same (h.off off)
theorem St.begin (S : Ext q p X H) : St K q p X [] H H [] [] := ⟨.refl, S.xp, S.xd, S.str, fun _ h => (by cases h), S.str, fun _ h => (by cases h), fun _ h => (by cases h), List.nodup_nil⟩
theorem St.sub (S : St K q p X ma H0 H ps ls) {qs : List (V × PyData)} {ms : List (Addr × List PyData)} (h : ∀ x ∈ qs, x ∈ ps) (g : ms.Sublist ls) : St K q p X ma H0 H qs ms := ⟨S.off, S.xp, S.xd, S.old, S.own, S.str, fun x hx => S.bag x (h x hx), fun x hx => S.lst x (g.subset hx), S.nod.sublist (g.map _)⟩
theorem St.ext (S : St K q p X ma H0 H ps ls) : Ext q p (Mm X ma) H := ⟨S.str, .inl S.xp, fun b m => m.elim (fun x => S.xh x) fun m => (S.own b m).2⟩
theorem Dt.x {v : V} {d : PyData} (h : Dt (Mm X []) K H v d) : Dt X K H v d := h.more fun _ m => .inl (.inl m)
theorem Dt.m {v : V} {d : PyData} (h : Dt X K H v d) : Dt (Mm X []) K H v d := h.more fun _ m => .inl (m.elim id fun z => by cases z)
theorem St.bare (S : St K q p X ma H0 H ps ls) : St K q p X ma H0 H [] [] := S.sub (fun _ h => by cases h) (List.nil_sublist _)
theorem St.only (S : St K q p X ma H0 H ps ls) {x : V × PyData} (h : x ∈ ps) : St K q p X ma H0 H [x] [] := S.sub (fun y hy => by
  rw [List.mem_singleton] at hy
  rw [hy]
  exact h) (List.nil_sublist _)
theorem St.catSize (S : St K q p X ma H0 H ps ls) {a b : Addr} {ds es : List PyData} (ha : (a, ds) ∈ ls) (hb : (b, es) ∈ ls) (h : ds.length + es.length ≤ 1000) : (lstOf H a).length + (lstOf H b).length ≤ sizeLine := by
  rw [(S.getL ha).2.len, (S.getL hb).2.len]
  exact Nat.le_trans h (by rw [sizeLine_eq]; decide)
/-- one of a list's items, by its place -/
theorem DtAll.pick {M : Addr → Prop} {xs : List V} {ds : List PyData} (h : DtAll M K H xs ds) {u : Int} (h0 : 0 ≤ u) (h1 : u < ds.length) :
    ∃ v d, atI xs u = some v ∧ ds[u.toNat]? = some d ∧ d ∈ ds ∧ Dt M K H v d := by
  obtain ⟨n, rfl⟩ : ∃ n : Nat, u = (n : Int) := ⟨u.toNat, by omega⟩
  have hn : n < ds.length := by omega
  obtain ⟨v, e1, dv⟩ := DtAll.at h (List.getElem?_eq_getElem hn)
  exact ⟨v, ds[n], atI_nat e1, List.getElem?_eq_getElem hn, List.getElem_mem hn, dv⟩
theorem Dt.tupInv {M : Addr → Prop} {v : V} {ds : List PyData} (h : Dt M K H v (.tuple ds)) : ∃ a xs, v = .ref a ∧ SqT K H a xs ∧ DtAll M K H xs ds := by
  cases h with
  | @tup a xs _ hs hd => exact ⟨a, xs, rfl, hs.sq, hd⟩
theorem Dt.lstInv {M : Addr → Prop} {v : V} {ds : List PyData} (h : Dt M K H v (.list ds)) : ∃ a xs, v = .ref a ∧ SqL K H a xs ∧ DtAll M K H xs ds := by
  cases h with
  | @lst a xs _ hs hd => exact ⟨a, xs, rfl, hs.sq, hd⟩
end
section
variable {K : PySem.W.Frag} {q p : Addr} {X : Addr → Prop} {ma : List Addr} {H0 H H' : Hp} {ps : List (V × PyData)} {ls : List (Addr × List PyData)} {M : Addr → Prop}
theorem Dt.intInv {v : V} {i : Int} (h : Dt M K H v (.int i)) : v = .int i := by cases h; rfl
theorem Dt.strInv {v : V} {x : Str} (h : Dt M K H v (.str x)) : v = .str x := by cases h; rfl
theorem Dt.boolInv {v : V} {b : Bool} (h : Dt M K H v (.bool b)) : v = .bl b := by cases h; rfl
/-- an item is put behind the first list -/
theorem St.snoc {D : Addr} {ds : List PyData} {y : V} {d : PyData} (S : St K q p X ma H0 H ps ((D, ds) :: ls)) (m : D ∈ ma) (h : Dt (Mm X ma) K H y d) (hl : ds.length ≤ 1000) :
    ∃ acc, H D = some (.lst acc) ∧ acc.length < sizeLine ∧ St K q p X ma H0 (L2.upd H D (.lst (acc ++ [y]))) ps ((D, ds ++ [d]) :: ls) := by
  obtain ⟨e, r⟩ := S.getL (.head _)
  exact ⟨_, e, small1000 (by rw [r.len]; exact hl), S.upd1 m (r.app (.cons h .nil))⟩
theorem Off.grow {S : St K q p X ma H0 H ps ls} {t : Addr} (n : H t = none) {v : V} {d : PyData} (h : Dt (Mm X ma) K H v d) : Dt (Mm X (t :: ma)) K H v d := h.more fun b m => by
  rcases m with m | m
  · exact .inl (.inl m)
  · rcases List.mem_cons.mp m with m | m
    · exact .inr (m ▸ n)
    · exact .inl (.inr m)
theorem St.calm1 {t : Addr} (S : St K q p X (t :: ma) H0 H ps ls) : St K q p X ma H0 H ps ls := S.calm fun _ h => .tail _ h
theorem St.dropL {x : Addr × List PyData} (S : St K q p X ma H0 H ps (x :: ls)) : St K q p X ma H0 H ps ls := S.sub (fun _ h => h) (List.sublist_cons_self _ _)
theorem St.lists (S : St K q p X ma H0 H ps ls) {a : Addr} {ds : List PyData} (h : (a, ds) ∈ ls) : ∃ xs, H a = some (.lst xs) ∧ DtAll (Mm X ma) K H xs ds := ⟨_, S.getL h⟩
theorem St.ints (S : St K q p X ma H0 H ps ls) {a : Addr} {ns : List Int} (s : Same H H') (n : H a = none) (e : H' a = some (.lst (ns.map V.int))) : St K q p X ma H0 H' ps ((a, ns.map PyData.int) :: ls) :=
  (S.same s).putL (fun z => S.xh z n) (S.newL n) e (DtAll.ints ns)
end
set_option hygiene false
local macro_rules | `(tactic| walk_at "mem") => `(tactic| (repeat (first | exact List.Mem.head _ | refine List.Mem.tail _ ?_)))
local macro_rules | `(tactic| walk_at "one") => `(tactic| first | exact Dt.int _ | exact Dt.str _ | exact Dt.bl _ | exact Dt.non | exact S.get (by walk_at "mem") | exact S.list (by walk_at "mem") (by simp))
local macro_rules | `(tactic| walk_at "has") => `(tactic| first | exact DtAll.nil | exact DtAll.cons (by walk_at "one") (by walk_at "has"))
local macro_rules | `(tactic| walk_at "size") => `(tactic| first | exact Nat.zero_le _ | exact Nat.le_of_lt (small1000 (Nat.le_of_ble_eq_true rfl)))
local macro_rules | `(tactic| walk_at "obj") => `(tactic| (refine ⟨by walk_at "size", fun t n => ?_⟩; generalize hx : L2.upd _ t _ = Hc; (first | replace S := S.tup' n hx (by walk_at "has") | replace S := S.lst' n hx (by walk_at "has")); clear n hx))
local macro_rules | `(tactic| walk_at "cat") => `(tactic| (refine ⟨_, _, _, _, rfl, rfl, (S.getL (by walk_at "mem")).1, (S.getL (by walk_at "mem")).1, S.catSize (by walk_at "mem") (by walk_at "mem") (Nat.le_of_ble_eq_true rfl), fun t n => ?_⟩; generalize hx : L2.upd _ t _ = Hc; replace S := S.lst' n hx (DtAll.app (S.getL (by walk_at "mem")).2 (S.getL (by walk_at "mem")).2); dsimp only [List.cons_append, List.nil_append] at S; clear n hx))
local macro_rules | `(tactic| walk_at "draw") => `(tactic| (refine ⟨_, _, _, rfl, S.str, (by first | decide | omega), (by first | decide | omega), fun u Hc u0 u1 b s => ?_⟩; replace S := S.draw b s; clear b s))
local macro_rules | `(tactic| walk_at "pick") => `(tactic| (obtain ⟨v, e, h2, h3, h4, h5⟩ := DtAll.pick (S.getL (a := t) (by walk_at "mem")).2 u0 (by first | exact u1 | omega); refine ⟨_, _, _, _, rfl, rfl, SqL.of (S.getL (a := t) (by walk_at "mem")).1, h2, ?_⟩; replace S := S.put h5; clear h2 h3 h5 u0 u1))
local macro_rules | `(tactic| walk_at "go") => `(tactic| repeat (first | refine ⟨_, rfl, ?_⟩ | walk_at "obj" | walk_at "cat"))
set_option hygiene true
set_option hygiene false
local macro_rules | `(tactic| walk_at "trim") => `(tactic| exact S.sub (fun x hx => by (repeat (first | exact hx | refine List.Mem.tail _ ?_))) (by (repeat (first | exact List.Sublist.refl _ | refine List.Sublist.cons _ ?_))))
set_option hygiene true
/-! ### the law's flow graphs: words, frames, kinds -/
def sp_law_word : Sp := fun vs H Q _ => ∃ p q X, vs = [.ref p] ∧ Ext q p X H ∧ ∀ (n : Int) H', -2147483648 ≤ n → n ≤ 2147483647 → But p H H' → Strm q H' p → Q (.int n) H'
theorem ok_law_word (T : Tx w K mg) : FnOk P w K mg base CX0 2 T.a_law_word T.d_law_word ["stream"] sp_law_word := by
  refine T.F_law_word.ok sc_law_word (fun vs H Q E h => ?_) (fun cdv A outer s H vs Q E hr h => ?_)
  · obtain ⟨p, q, X, rfl, _⟩ := h
    rfl
  · obtain ⟨p, q, X, rfl, hS, k⟩ := h
    refine ⟨_, (pss_cons (ps_if (pt_cmpR op_eq (pe_call (ok_law_draw T) (hr.mono (by decide)) (by rfl) T.g_law_draw T.F_law_draw.kp T.b_law_draw .nil pass0 (pa_cons (pv 0) (pa_cons pe_int pa_nil))) pe_int (nomark _)) (pss_one (ps_ret (pe_ix ix_list (pe_lst (pa_cons (pe_op op_sub (pe_op op_pow pe_int pe_int) pe_int) (pa_cons (pe_op op_sub pe_int (pe_op op_pow pe_int pe_int)) (pa_cons pe_int (pa_cons (pe_un un_neg pe_int) (pa_cons pe_int (pa_cons pe_int pa_nil))))))) (pe_call (ok_law_draw T) (hr.mono (by decide)) (by rfl) T.g_law_draw T.F_law_draw.kp T.b_law_draw .nil pass0 (pa_cons (pv 0) (pa_cons pe_int pa_nil))) (fun _ _ => rfl)))) pss_nil)
      (pss_one (ps_ret (pe_op op_sub (pe_call (ok_law_draw T) (hr.mono (by decide)) (by rfl) T.g_law_draw T.F_law_draw.kp T.b_law_draw .nil pass0 (pa_cons (pv 0) (pa_cons pe_int pa_nil))) pe_int)))), ?_⟩
    have c31 : CPow 2 31 := ⟨by decide, by decide, by decide⟩
    have S := St.begin (K := K) hS
    refine ⟨_, rfl, ?_⟩
    walk_at "draw"
    refine ⟨rfl, _, rfl, ite2 (fun z => ?_) (fun z => ?_)⟩
    · refine ⟨_, _, rfl, rfl, c31, _, _, rfl, rfl, _, _, rfl, rfl, c31, _, _, rfl, rfl, ?_⟩
      walk_at "go"
      walk_at "draw"
      walk_at "pick"
      have h5 := S.get (.head _)
      simp only [List.mem_cons, List.not_mem_nil, or_false] at h4
      rcases h4 with rfl | rfl | rfl | rfl | rfl | rfl <;> (cases Dt.intInv h5; exact k _ _ (by decide) (by decide) S.off S.str)
    · refine ⟨_, rfl, ?_⟩
      walk_at "draw"
      refine ⟨_, _, rfl, rfl, ?_⟩
      exact k _ _ (by omega) (by omega) S.off S.str
def paramRows : List (List PyData) := [[.tuple [.str "n", .str "int"], .tuple [.str "m", .str "int"], .tuple [.str "a", .str "buffer"], .tuple [.str "k", .str "int"], .tuple [.str "b", .str "buffer"], .tuple [.str "c", .str "buffer"]],
  [.tuple [.str "n", .str "int"], .tuple [.str "a", .str "buffer"], .tuple [.str "b", .str "buffer"]], [.tuple [.str "a", .str "buffer"], .tuple [.str "m", .str "int"], .tuple [.str "n", .str "int"]], []]
def sharedNames : List Str := ["s", "s2", "s3"]
def SharedOk (i : Nat) (d : PyData) : Prop := ∃ (s : Str) (n : Int), sharedNames[i]? = some s ∧ d = .tuple [.str s, .int n] ∧ n ∈ ([1, 2, 4, 9, 16] : List Int)
def FrameOk (ps ss : List PyData) : Prop := ps ∈ paramRows ∧ ss.length ≤ 3 ∧ ∀ i d, ss[i]? = some d → SharedOk i d
def sp_law_frame (K : PySem.W.Frag) : Sp := fun vs H Q _ => ∃ p q X, vs = [.ref p] ∧ Ext q p X H ∧ ∀ (v : V) H' (ps ss : List PyData), FrameOk ps ss → But p H H' → Strm q H' p → Dt X K H' v (.tuple [.tuple ps, .tuple ss]) → Q v H'
theorem ok_law_frame (T : Tx w K mg) : FnOk P w K mg base CX0 2 T.a_law_frame T.d_law_frame ["stream"] (sp_law_frame K) := by
  refine T.F_law_frame.ok sc_law_frame (fun vs H Q E h => ?_) (fun cdv A outer s H vs Q E hr h => ?_)
  · obtain ⟨p, q, X, rfl, _⟩ := h
    rfl
  · obtain ⟨p, q, X, rfl, hS, k⟩ := h
    refine ⟨_, (pss_cons (ps_set (i := 1) sc_law_frame.nd rfl (.inl rfl) (pe_lst (pa_cons (pe_tup (pa_cons (pe_tup (pa_cons pe_str (pa_cons pe_str pa_nil))) (pa_cons (pe_tup (pa_cons pe_str (pa_cons pe_str pa_nil))) (pa_cons (pe_tup (pa_cons pe_str (pa_cons pe_str pa_nil))) pa_nil)))) (pa_cons (pe_tup (pa_cons (pe_tup (pa_cons pe_str (pa_cons pe_str pa_nil))) (pa_cons (pe_tup (pa_cons pe_str (pa_cons pe_str pa_nil))) (pa_cons (pe_tup (pa_cons pe_str (pa_cons pe_str pa_nil))) pa_nil)))) (pa_cons (pe_tup pa_nil) pa_nil)))))
      (pss_cons (ps_set (i := 1) sc_law_frame.nd rfl (.inl rfl) (pe_op op_cat (pe_lst (pa_cons (pe_tup (pa_cons (pe_tup (pa_cons pe_str (pa_cons pe_str pa_nil))) (pa_cons (pe_tup (pa_cons pe_str (pa_cons pe_str pa_nil))) (pa_cons (pe_tup (pa_cons pe_str (pa_cons pe_str pa_nil))) (pa_cons (pe_tup (pa_cons pe_str (pa_cons pe_str pa_nil))) (pa_cons (pe_tup (pa_cons pe_str (pa_cons pe_str pa_nil))) (pa_cons (pe_tup (pa_cons pe_str (pa_cons pe_str pa_nil))) pa_nil))))))) pa_nil)) (pv 1)))
      (pss_cons (ps_set (i := 2) sc_law_frame.nd rfl (.inl rfl) (pe_callTy call_tuple_of (by rfl) T.z_tuple (by decide +kernel) (pa_cons (pe_lc (own := [("k", 3)]) (g := gName 3) (tt := tYes) rfl sc_law_frame.nd (pi_range1 (by rfl) T.z_range (pa_cons (pe_call (ok_law_draw T) (hr.mono (by decide)) (by rfl) T.g_law_draw T.F_law_draw.kp T.b_law_draw .nil pass0 (pa_cons (pv 0) (pa_cons pe_int pa_nil))) pa_nil)) (blkOk_by (N := ["stream", "rows", "shared", "k"]) (sc := defScope s_law_frame) (by decide +kernel)) (fun _ _ _ _ _ => (pg_name (i := 3) sc_law_frame.nd rfl (.inl rfl))) (fun _ _ _ _ _ => pts_nil) (fun _ _ _ _ _ => (pe_tup (pa_cons (pe_ix (show IxR _ (rIxL K) from ix_list) (pe_lst (pa_cons pe_str (pa_cons pe_str (pa_cons pe_str pa_nil)))) (pv 3) (fun _ _ => rfl)) (pa_cons (pe_ix (show IxR _ (rIxL K) from ix_list) (pe_lst (pa_cons pe_int (pa_cons pe_int (pa_cons pe_int (pa_cons pe_int (pa_cons pe_int pa_nil)))))) (pe_call (ok_law_draw T) (hr.mono (by decide)) (by rfl) T.g_law_draw T.F_law_draw.kp T.b_law_draw .nil pass0 (pa_cons (pv 0) (pa_cons pe_int pa_nil))) (fun _ _ => rfl)) pa_nil))))) pa_nil)))
      (pss_one (ps_ret (pe_tup (pa_cons (pe_ix ix_list (pv 1) (pe_op op_fdivW (pe_callTy call_int1 (by rfl) T.z_int (by decide +kernel) (pa_cons (pe_call (ok_law_draw T) (hr.mono (by decide)) (by rfl) T.g_law_draw T.F_law_draw.kp T.b_law_draw .nil pass0 (pa_cons (pv 0) (pa_cons pe_int pa_nil))) pa_nil)) pe_int) (fun _ _ => rfl)) (pa_cons (pv 2) pa_nil)))))))), ?_⟩
    have S := St.begin (K := K) hS
    walk_at "go"
    rename_i tr _
    walk_at "draw"
    refine ⟨u, rfl, by omega, by omega, fun D nD => ?_⟩
    refine lc_range (n := u.toNat) (fun j H' => ∃ ds, j ≤ 3 ∧ ds.length = j ∧ (∀ i d, ds[i]? = some d → SharedOk i d) ∧ St K q p X [D] H H' _ ((D, ds) :: _))
      ⟨[], by omega, rfl, (fun i d h => by simp at h), S.mut' nD rfl .nil⟩ ?_ ?_
    · rintro j H4 hj ⟨ds, hj3, hl, hs, S⟩
      refine ⟨rfl, ?_⟩
      walk_at "go"
      obtain ⟨v, e, h2, h3, h4, h5⟩ := DtAll.pick (S.getL (a := t) (by walk_at "mem")).2 (u := 0 + (j : Int)) (by omega) (by show (0 + (j : Int)) < 3; omega)
      refine ⟨_, _, _, _, rfl, rfl, SqL.of (S.getL (a := t) (by walk_at "mem")).1, h2, ?_⟩
      have nm : ∃ s, sharedNames[j]? = some s ∧ e = .str s := by
        have hj' : j = 0 ∨ j = 1 ∨ j = 2 := by omega
        rcases hj' with rfl | rfl | rfl <;> (cases h3; exact ⟨_, rfl, rfl⟩)
      obtain ⟨sn, e1, rfl⟩ := nm
      cases Dt.strInv h5
      have hj1 : j + 1 ≤ 3 := by omega
      clear h2 h3 h4 h5 u0 u1
      walk_at "go"
      walk_at "draw"
      walk_at "pick"
      have nn : ∃ n : Int, e = .int n ∧ n ∈ ([1, 2, 4, 9, 16] : List Int) := by
        simp only [List.mem_cons, List.not_mem_nil, or_false] at h4
        rcases h4 with rfl | rfl | rfl | rfl | rfl <;> exact ⟨_, rfl, by decide⟩
      obtain ⟨n, rfl, hn⟩ := nn
      cases Dt.intInv (S.get (.head _))
      walk_at "go"
      have S2 : St K q p X [D] H Hc _ ((D, ds) :: _) := S.dropL.dropL
      obtain ⟨acc, a1, a2, S3⟩ := S2.snoc (.head _) (S.get (.head _)) (by omega)
      refine ⟨acc, a1, a2, _, by omega, by rw [List.length_append, hl]; rfl, fun i d hd => ?_, S3.sub (fun x hx => by (repeat (first | exact hx | refine List.Mem.tail _ ?_))) (List.Sublist.refl _)⟩
      by_cases hi : i < ds.length
      · rw [List.getElem?_append_left hi] at hd
        exact hs i d hd
      · rw [List.getElem?_append_right (by omega)] at hd
        obtain rfl : i = ds.length := by
          have := (List.getElem?_eq_some_iff.mp hd).1
          simp at this
          omega
        rw [Nat.sub_self] at hd
        cases hd
        exact ⟨sn, n, by rw [hl]; exact e1, rfl, hn⟩
    · rintro H4 ⟨ds, hj3, hl, hs, S⟩
      refine ⟨D, _, rfl, .inl ⟨SqL.of (S.getL (.head _)).1, fun tS n => ?_⟩⟩
      generalize hx : L2.upd _ tS _ = Hc
      replace S := (S.tup' n hx (S.getL (.head _)).2).dropL.calm1
      clear n hx
      walk_at "go"
      walk_at "draw"
      refine .inl ⟨_, rfl, _, _, rfl, rfl, wide_div (b := 8) (by decide) (by decide) (by decide) (by decide), ?_⟩
      obtain ⟨v, e, h2, h3, h4, h5⟩ := DtAll.pick (S.getL (a := t) (by walk_at "mem")).2 (u := u / 3) (by omega) (by show u / 3 < 4; omega)
      refine ⟨_, _, _, _, rfl, rfl, SqL.of (S.getL (a := t) (by walk_at "mem")).1, h2, ?_⟩
      replace S := S.put h5
      have hp : ∃ ps, e = .tuple ps ∧ ps ∈ paramRows := by
        simp only [List.mem_cons, List.not_mem_nil, or_false] at h4
        rcases h4 with rfl | rfl | rfl | rfl
        · exact ⟨_, rfl, .head _⟩
        · exact ⟨_, rfl, .tail _ (.head _)⟩
        · exact ⟨_, rfl, .tail _ (.tail _ (.head _))⟩
        · exact ⟨_, rfl, .tail _ (.tail _ (.tail _ (.head _)))⟩
      obtain ⟨ps, rfl, hp⟩ := hp
      walk_at "go"
      exact k _ _ ps ds ⟨hp, by omega, hs⟩ S.off S.str (Dt.x (S.get (.head _)))
theorem Dp.tupInv {K : PySem.W.Frag} {H : Hp} {v : V} {ds : List PyData} (h : Dp K H v (.tuple ds)) : ∃ a xs, v = .ref a ∧ SqT K H a xs ∧ DpAll K H xs ds := by
  cases h with
  | @tup a xs _ hs hd => exact ⟨a, xs, rfl, hs, hd⟩
theorem Dp.lstInv {K : PySem.W.Frag} {H : Hp} {v : V} {ds : List PyData} (h : Dp K H v (.list ds)) : ∃ a xs, v = .ref a ∧ SqL K H a xs ∧ DpAll K H xs ds := by
  cases h with
  | @lst a xs _ hs hd => exact ⟨a, xs, rfl, hs, hd⟩
theorem Dp.strInv {K : PySem.W.Frag} {H : Hp} {v : V} {x : Str} (h : Dp K H v (.str x)) : v = .str x := by cases h; rfl
theorem Dp.intInv {K : PySem.W.Frag} {H : Hp} {v : V} {x : Int} (h : Dp K H v (.int x)) : v = .int x := by cases h; rfl
theorem DpAll.ints {K : PySem.W.Frag} {H : Hp} : ∀ xs : List Int, DpAll K H (xs.map V.int) (xs.map PyData.int)
  | [] => .nil
  | x :: r => .cons (.int x) (DpAll.ints r)
/-- an item of a tuple of data -/
theorem Dp.item {K : PySem.W.Frag} {H : Hp} {v : V} {ds : List PyData} {d : PyData} {i : Nat} (h : Dp K H v (.tuple ds)) (e : ds[i]? = some d) : ∃ a xs u, v = .ref a ∧ SqT K H a xs ∧ atI xs (i : Int) = some u ∧ Dp K H u d := by
  obtain ⟨a, xs, rfl, hs, hd⟩ := Dp.tupInv h
  obtain ⟨u, e1, du⟩ := DpAll.at hd e
  exact ⟨a, xs, u, rfl, hs, atI_nat e1, du⟩
theorem Dp.itemL {K : PySem.W.Frag} {H : Hp} {v : V} {ds : List PyData} {d : PyData} {i : Nat} (h : Dp K H v (.list ds)) (e : ds[i]? = some d) : ∃ a xs u, v = .ref a ∧ SqL K H a xs ∧ atI xs (i : Int) = some u ∧ Dp K H u d := by
  obtain ⟨a, xs, rfl, hs, hd⟩ := Dp.lstInv h
  obtain ⟨u, e1, du⟩ := DpAll.at hd e
  exact ⟨a, xs, u, rfl, hs, atI_nat e1, du⟩
def sortOf : PyData → Str
  | .tuple [_, .str s] => s
  | _ => ""
def kindTo (ps : List PyData) (kind : Str) (j : Nat) : List Int := ((List.range j).filter fun k => decide (sortOf (ps.getD k .none) = kind)).map Int.ofNat
def kinds (ps ss : List PyData) (kind : Str) : List Int := if kind = "buffer" then kindTo ps kind ps.length ++ (List.range ss.length).map (fun k => 6 + Int.ofNat k) else kindTo ps kind ps.length
theorem rows_pairs {ps : List PyData} (h : ps ∈ paramRows) : ps.length ≤ 6 ∧ ∀ d ∈ ps, ∃ a b, d = .tuple [.str a, .str b] := by
  simp only [paramRows, List.mem_cons, List.not_mem_nil, or_false] at h
  rcases h with rfl | rfl | rfl | rfl
  all_goals
    refine ⟨by simp, fun d hd => ?_⟩
    simp only [List.mem_cons, List.not_mem_nil, or_false] at hd
  · rcases hd with rfl | rfl | rfl | rfl | rfl | rfl <;> exact ⟨_, _, rfl⟩
  · rcases hd with rfl | rfl | rfl <;> exact ⟨_, _, rfl⟩
  · rcases hd with rfl | rfl | rfl <;> exact ⟨_, _, rfl⟩
def sp_law_kinds (K : PySem.W.Frag) : Sp := fun vs H Q _ => ∃ (v : V) (kind : Str) (ps ss : List PyData), vs = [v, .str kind] ∧ Dp K H v (.tuple [.tuple ps, .tuple ss]) ∧ FrameOk ps ss ∧
  ∀ r H', Same H H' → H r = none → H' r = some (.lst ((kinds ps ss kind).map V.int)) → Q (.ref r) H'
theorem ok_law_kinds (T : Tx w K mg) : FnOk P w K mg base CX0 1 T.a_law_kinds T.d_law_kinds ["frame", "kind"] (sp_law_kinds K) := by
  refine T.F_law_kinds.ok sc_law_kinds (fun vs H Q E h => ?_) (fun cdv A outer s H vs Q E hr h => ?_)
  · obtain ⟨v, kind, ps, ss, rfl, _⟩ := h
    rfl
  · obtain ⟨v, kind, ps, ss, rfl, dv, ⟨hp, hs3, hss⟩, k⟩ := h
    refine ⟨_, (pss_cons (ps_setLc (i := 2) (own := [("k", 3)]) (g := gName 3)  rfl sc_law_kinds.nd rfl rfl (sw_true rfl rfl rfl (by decide +kernel)) (pi_range1 (by rfl) T.z_range (pa_cons (pe_callB call_len_seq (by rfl) T.z_len (by decide +kernel) (pa_cons (pe_ix ix_tup (pv 0) pe_int (fun _ _ => rfl)) pa_nil)) pa_nil)) (blkOk_by (N := ["frame", "kind", "found", "k"]) (sc := defScope s_law_kinds) (by decide +kernel)) (fun _ _ _ _ _ => (pg_name (i := 3) sc_law_kinds.nd rfl (.inl rfl))) (fun _ _ _ _ _ => (pts_one (pt_cmpR op_eq (pe_ix (show IxR _ (rIxT K) from ix_tup) (pe_ix (show IxR _ (rIxT K) from ix_tup) (pe_ix (show IxR _ (rIxT K) from ix_tup) (pv 0) pe_int (fun _ _ => rfl)) (pv 3) (fun _ _ => rfl)) pe_int (fun _ _ => rfl)) (pv 1) (nomark _)))) (fun _ _ _ _ _ => (pv 3)))
      (C8.pss_cut (ps_if (pt_cmpR op_eq (pv 1) pe_str (nomark _)) (pss_one (ps_set (i := 2) sc_law_kinds.nd rfl (.inl rfl) (pe_op op_cat (pv 2) (pe_lc (own := [("k", 3)]) (g := gName 3) (tt := tYes) rfl sc_law_kinds.nd (pi_range1 (by rfl) T.z_range (pa_cons (pe_callB call_len_seq (by rfl) T.z_len (by decide +kernel) (pa_cons (pe_ix ix_tup (pv 0) pe_int (fun _ _ => rfl)) pa_nil)) pa_nil)) (blkOk_by (N := ["frame", "kind", "found", "k"]) (sc := defScope s_law_kinds) (by decide +kernel)) (fun _ _ _ _ _ => (pg_name (i := 3) sc_law_kinds.nd rfl (.inl rfl))) (fun _ _ _ _ _ => pts_nil) (fun _ _ _ _ _ => (pe_op op_add pe_int (pv 3))))))) pss_nil)
      (pss_one (ps_ret (pv 2))))), ?_⟩
    obtain ⟨l6, pr⟩ := rows_pairs hp
    have at0 : ∀ H', Same H H' → ∃ a xs u, v = .ref a ∧ SqT K H' a xs ∧ atI xs ((0 : Nat) : Int) = some u ∧ Dp K H' u (.tuple ps) := fun H' s => Dp.item (dv.same s) (i := 0) rfl
    have at1 : ∀ H', Same H H' → ∃ a xs u, v = .ref a ∧ SqT K H' a xs ∧ atI xs ((1 : Nat) : Int) = some u ∧ Dp K H' u (.tuple ss) := fun H' s => Dp.item (dv.same s) (i := 1) rfl
    obtain ⟨a, xs, u, rfl, h1, h2, h3⟩ := at0 H (.refl H)
    obtain ⟨b, ys, rfl, g1, g2⟩ := Dp.tupInv h3
    refine ⟨_, rfl, _, _, _, _, rfl, rfl, h1, h2, ?_⟩
    refine ⟨_, _, rfl, .inr g1, _, rfl, by omega, by have := g2.len; omega, fun D nD => ?_⟩
    refine lc_range (n := (ys.length : Int).toNat) (fun j H' => Same H H' ∧ j ≤ ps.length ∧ H' D = some (.lst ((kindTo ps kind j).map V.int)))
      ⟨same_new5 nD, Nat.zero_le _, upd_same⟩ ?_ ?_
    · rintro j H4 hj ⟨s4, hj2, hD⟩
      have hj3 : j < ps.length := by have := g2.len; omega
      obtain ⟨n1, n2, e1⟩ := pr _ (List.getElem_mem hj3)
      obtain ⟨a2, xs2, u2, q1, q2, q3, q4⟩ := at0 H4 s4
      cases q1
      obtain ⟨a3, xs3, u3, rfl, q6, q7, q8⟩ := Dp.item q4 (i := j) (by rw [List.getElem?_eq_getElem hj3])
      rw [e1] at q8
      obtain ⟨a4, xs4, u4, rfl, q10, q11, q12⟩ := Dp.item q8 (i := 1) rfl
      cases Dp.strInv q12
      refine ⟨rfl, _, rfl, _, _, _, _, rfl, rfl, q2, q3, _, rfl, _, _, _, _, rfl, rfl, q6, (by rw [Int.zero_add]; exact q7), _, _, _, _, rfl, rfl, q10, q11, _, rfl, rfl, _, rfl, ?_⟩
      have st : kindTo ps kind (j + 1) = kindTo ps kind j ++ (if n2 = kind then [Int.ofNat j] else []) := by
        unfold kindTo
        rw [List.range_succ, List.filter_append, List.map_append]
        congr 1
        have e2 : sortOf (ps.getD j .none) = n2 := by rw [List.getD_eq_getElem?_getD, List.getElem?_eq_getElem hj3, e1]; rfl
        by_cases z : n2 = kind
        · rw [if_pos z, List.filter_cons_of_pos (by rw [e2]; exact decide_eq_true z)]; rfl
        · rw [if_neg z, List.filter_cons_of_neg (by rw [e2, decide_eq_false z]; exact Bool.false_ne_true)]; rfl
      have ln : (kindTo ps kind j).length ≤ j := by
        unfold kindTo
        rw [List.length_map]
        exact Nat.le_trans (List.length_filter_le _ _) (by rw [List.length_range]; exact Nat.le_refl _)
      refine ite2 (fun z => ?_) (fun z => ?_)
      · have z' : n2 = kind := by have := of_decide_eq_true z; cases this; rfl
        refine ⟨_, rfl, _, hD, small1000 (by rw [List.length_map]; omega), ?_, by omega, ?_⟩
        · intro b' o' hb
          by_cases eb : b' = D
          · subst eb; rw [nD] at hb; cases hb
          · rw [upd_ne eb]; exact s4 _ _ hb
        · rw [upd_same, st, if_pos z', List.map_append, Int.zero_add]; rfl
      · have z' : ¬ n2 = kind := fun e => z (by rw [e]; exact decide_eq_true rfl)
        refine ⟨s4, by omega, ?_⟩
        rw [st, if_neg z', List.append_nil]; exact hD
    · rintro H4 ⟨s4, _, hD⟩
      have e0 : (ys.length : Int).toNat = ps.length := by have := g2.len; omega
      rw [e0] at hD
      refine ⟨fun σ' H' => ∃ (r : Addr) (y : Option V), σ' = [some (.ref a), some (.str kind), some (.ref r), y] ∧ Same H H' ∧ H r = none ∧ H' r = some (.lst ((kinds ps ss kind).map V.int)), ?_, ?_⟩
      · refine ⟨_, rfl, rfl, _, rfl, ite2 (fun z => ?_) (fun z => ?_)⟩
        · have z' : kind = "buffer" := by have := of_decide_eq_true z; cases this; rfl
          obtain ⟨a2, xs2, u2, q1, q2, q3, q4⟩ := at1 H4 s4
          cases q1
          obtain ⟨b2, ys2, rfl, f1, f2⟩ := Dp.tupInv q4
          have l2 := f2.len
          refine ⟨_, rfl, _, rfl, _, _, _, _, rfl, rfl, q2, q3, ?_⟩
          refine ⟨_, _, rfl, .inr f1, _, rfl, by omega, by omega, fun D2 nD2 => ?_⟩
          have hDD : D2 ≠ D := fun e => by rw [e, hD] at nD2; cases nD2
          refine lc_range (n := (ys2.length : Int).toNat) (fun j H' => Same H4 H' ∧ H' D2 = some (.lst (((List.range j).map (fun k => 6 + Int.ofNat k)).map V.int)))
            ⟨same_new5 nD2, upd_same⟩ ?_ ?_
          · rintro j H5 hj ⟨s5, hD2⟩
            refine ⟨rfl, _, rfl, _, _, rfl, rfl, _, hD2, small1000 (by rw [List.length_map, List.length_map, List.length_range]; omega), ?_, ?_⟩
            · intro b' o' hb
              by_cases eb : b' = D2
              · subst eb; rw [nD2] at hb; cases hb
              · rw [upd_ne eb]; exact s5 _ _ hb
            · rw [upd_same, List.range_succ, List.map_append, List.map_append, Int.zero_add]; rfl
          · rintro H5 ⟨s5, hD2⟩
            have lk : ((kindTo ps kind ps.length).map V.int).length ≤ 6 := by
              unfold kindTo
              rw [List.length_map, List.length_map]
              exact Nat.le_trans (List.length_filter_le _ _) (by rw [List.length_range]; exact l6)
            have e6 : (ys2.length : Int).toNat = ss.length := by omega
            refine ⟨_, _, _, _, rfl, rfl, s5 _ _ hD, hD2, Nat.le_of_lt (small1000 (by simp only [List.length_map, List.length_range] at lk ⊢; omega)), fun t nt => ?_⟩
            refine ⟨t, _, rfl, (s4.trans s5).trans (same_new5 nt), ?_, ?_⟩
            · cases e : H t with
              | none => rfl
              | some o => rw [s5 _ _ (s4 _ _ e)] at nt; cases nt
            · rw [upd_same, e6]
              unfold kinds
              rw [if_pos z', List.map_append, z']
        · have z' : ¬ kind = "buffer" := fun e => z (by rw [e]; exact decide_eq_true rfl)
          refine ⟨D, _, rfl, s4, nD, ?_⟩
          unfold kinds
          rw [if_neg z']
          exact hD
      · rintro σ' H5 ⟨r, y, rfl, s5, nr, hr5⟩
        exact ⟨_, rfl, k r H5 s5 nr hr5⟩
/-! ### instructions -/
def Reg (many i : Int) : Prop := 0 ≤ i ∧ i < many
def folds : List Str := ["add", "min", "max", "and", "or", "xor"]
def unas : List Str := ["neg", "not", "zero"]
def bins : List Str := ["add", "sub", "mul", "div", "rem", "and", "or", "xor", "shl", "shr", "lt", "le", "eq", "ne", "min", "max"]
def specs : List Str := ["tid", "bid", "dim", "grid"]
inductive Ins (many : Int) (ps ss : List PyData) (waits : Int) : PyData → Prop
  | word {d n : Int} : Reg many d → -2147483648 ≤ n → n ≤ 2147483647 → Ins many ps ss waits (.tuple [.str "word", .int d, .int n])
  | param {d k : Int} : Reg many d → k ∈ kinds ps ss "int" → Ins many ps ss waits (.tuple [.str "param", .int d, .int k])
  | special {d : Int} {x : Str} : Reg many d → x ∈ specs → Ins many ps ss waits (.tuple [.str "special", .int d, .str x])
  | copy {d r : Int} : Reg many d → Reg many r → Ins many ps ss waits (.tuple [.str "copy", .int d, .int r])
  | unary {d r : Int} {x : Str} : x ∈ unas → Reg many d → Reg many r → Ins many ps ss waits (.tuple [.str "unary", .str x, .int d, .int r])
  | binary {d r t : Int} {x : Str} : x ∈ bins → Reg many d → Reg many r → Reg many t → Ins many ps ss waits (.tuple [.str "binary", .str x, .int d, .int r, .int t])
  | barrier {n : Int} : waits = 1 → 0 ≤ n → n < 3 → Ins many ps ss waits (.tuple [.str "barrier", .int n])
  | collect {d r n : Int} {x : Str} : waits = 1 → x ∈ folds → Reg many d → Reg many r → 0 ≤ n → n < 3 → Ins many ps ss waits (.tuple [.str "collect", .str x, .int d, .int r, .int n])
  | load {d a r : Int} : Reg many d → a ∈ kinds ps ss "buffer" → Reg many r → Ins many ps ss waits (.tuple [.str "load", .int d, .int a, .int r])
  | store {a r t : Int} : a ∈ kinds ps ss "buffer" → Reg many r → Reg many t → Ins many ps ss waits (.tuple [.str "store", .int a, .int r, .int t])
  | atomic {a r t : Int} {x : Str} : x ∈ folds → a ∈ kinds ps ss "buffer" → Reg many r → Reg many t → Ins many ps ss waits (.tuple [.str "atomic", .str x, .int a, .int r, .int t])
theorem ints_at {K : PySem.W.Frag} {H : Hp} {a : Addr} {ns : List Int} (h : H a = some (.lst (ns.map V.int))) {u : Int} (h0 : 0 ≤ u) (h1 : u < ns.length) : ∃ n, SqL K H a (ns.map V.int) ∧ atI (ns.map V.int) u = some (.int n) ∧ n ∈ ns := by
  obtain ⟨k, rfl⟩ : ∃ k : Nat, u = (k : Int) := ⟨u.toNat, by omega⟩
  have hk : k < ns.length := by omega
  exact ⟨ns[k], SqL.of h, atI_nat (by rw [List.getElem?_map, List.getElem?_eq_getElem hk]; rfl), List.getElem_mem hk⟩
/-- one of the texts of a list of texts -/
theorem mem_strs {xs : List Str} {e : PyData} (h : e ∈ xs.map PyData.str) : ∃ x, e = .str x ∧ x ∈ xs := by
  obtain ⟨x, hx, rfl⟩ := List.mem_map.mp h
  exact ⟨x, rfl, hx⟩
theorem mem_ints {xs : List Int} {e : PyData} (h : e ∈ xs.map PyData.int) : ∃ x, e = .int x ∧ x ∈ xs := by
  obtain ⟨x, hx, rfl⟩ := List.mem_map.mp h
  exact ⟨x, rfl, hx⟩
theorem kinds_len {ps ss : List PyData} (h : FrameOk ps ss) (kind : Str) : (kinds ps ss kind).length ≤ 9 := by
  have l6 := (rows_pairs h.1).1
  have l3 := h.2.1
  have lk : (kindTo ps kind ps.length).length ≤ 6 := by
    unfold kindTo
    rw [List.length_map]
    exact Nat.le_trans (List.length_filter_le _ _) (by rw [List.length_range]; exact l6)
  unfold kinds
  split
  · rw [List.length_append, List.length_map, List.length_range]; omega
  · omega
def sp_law_instruction (K : PySem.W.Frag) : Sp := fun vs H Q _ => ∃ (p q : Addr) (X : Addr → Prop) (many waits : Int) (fv : V) (ps ss : List PyData), vs = [.ref p, .int many, fv, .int waits] ∧ Ext q p X H ∧ 0 < many ∧ many < 1000 ∧ (waits = 0 ∨ waits = 1) ∧
  Dt X K H fv (.tuple [.tuple ps, .tuple ss]) ∧ FrameOk ps ss ∧ ∀ (v : V) H' (d : PyData), Ins many ps ss waits d → But p H H' → Strm q H' p → Dt X K H' v d → Q v H'
set_option hygiene false
local macro_rules | `(tactic| walk_at "wordret") => `(tactic| ((repeat refine iteT ?_); refine ⟨_, rfl, _, rfl, p, q, _, rfl, S.ext, fun n Hc n0 n1 b s => ?_⟩; replace S := S.draw b s; walk_at "obj"; exact k _ _ _ (.word ⟨d0, d1⟩ n0 n1) S.off S.str (Dt.x (S.get (.head _)))))
local macro_rules | `(tactic| walk_at "testC") => `(tactic| (
  refine ⟨_, rfl, _, _, rfl, rfl, _, rfl, ite2 (fun z4 => ⟨_, _, rfl, rfl, _, rfl, ite2 (fun z5 => ?_) (fun z5 => ?_)⟩) (fun z4 => ⟨_, rfl, ?_⟩)⟩
  · refine ⟨_, rfl, _, _, rfl, .inl (SqL.of (S.getL (a := aA) (by walk_at "mem")).1), rfl, _, rfl, ite2 (fun z6 => ?_) (fun z6 => ?_)⟩
    · walk_at "wordret"
    · repeat refine iteF ?_
      refine ⟨rfl, rfl, A1, A2, fun _ _ e => z6 ?_⟩
      rw [lenA (S.getL (a := aA) (by walk_at "mem")).2, e]
      rfl
  · repeat refine iteF ?_
    exact ⟨rfl, rfl, A1, A2, fun _ e => absurd (decide_eq_true e) z5⟩
  · repeat refine iteF ?_
    exact ⟨rfl, rfl, A1, A2, fun e => absurd (decide_eq_true e) z4⟩))
set_option hygiene true
theorem ok_law_instruction (T : Tx w K mg) : FnOk P w K mg base CX0 3 T.a_law_instruction T.d_law_instruction ["stream", "many", "frame", "waits"] (sp_law_instruction K) := by
  refine T.F_law_instruction.ok sc_law_instruction (fun vs H Q E h => ?_) (fun cdv A outer s H vs Q E hr h => ?_)
  · obtain ⟨p, q, X, many, waits, fv, ps, ss, rfl, _⟩ := h
    rfl
  · obtain ⟨p, q, X, many, waits, fv, ps, ss, rfl, hS, m0, m1, hw, df, hF, k⟩ := h
    refine ⟨_, (pss_cons (ps_set (i := 4) sc_law_instruction.nd rfl (.inl rfl) (pe_call (ok_law_draw T) (hr.mono (by decide)) (by rfl) T.g_law_draw T.F_law_draw.kp T.b_law_draw .nil pass0 (pa_cons (pv 0) (pa_cons (pe_op op_add pe_int (pe_op op_mul pe_int (pv 3))) pa_nil))))
      (pss_cons (ps_set (i := 5) sc_law_instruction.nd rfl (.inl rfl) (pe_call (ok_law_draw T) (hr.mono (by decide)) (by rfl) T.g_law_draw T.F_law_draw.kp T.b_law_draw .nil pass0 (pa_cons (pv 0) (pa_cons (pv 1) pa_nil))))
      (pss_cons (ps_set (i := 6) sc_law_instruction.nd rfl (.inl rfl) (pe_call (ok_law_draw T) (hr.mono (by decide)) (by rfl) T.g_law_draw T.F_law_draw.kp T.b_law_draw .nil pass0 (pa_cons (pv 0) (pa_cons (pv 1) pa_nil))))
      (pss_cons (ps_set (i := 7) sc_law_instruction.nd rfl (.inl rfl) (pe_call (ok_law_draw T) (hr.mono (by decide)) (by rfl) T.g_law_draw T.F_law_draw.kp T.b_law_draw .nil pass0 (pa_cons (pv 0) (pa_cons (pv 1) pa_nil))))
      (pss_cons (ps_set (i := 8) sc_law_instruction.nd rfl (.inl rfl) (pe_ix ix_list (pe_lst (pa_cons pe_str (pa_cons pe_str (pa_cons pe_str (pa_cons pe_str (pa_cons pe_str (pa_cons pe_str pa_nil))))))) (pe_call (ok_law_draw T) (hr.mono (by decide)) (by rfl) T.g_law_draw T.F_law_draw.kp T.b_law_draw .nil pass0 (pa_cons (pv 0) (pa_cons pe_int pa_nil))) (fun _ _ => rfl)))
      (pss_cons (ps_set (i := 9) sc_law_instruction.nd rfl (.inl rfl) (pe_call (ok_law_kinds T) (hr.mono (by decide)) (by rfl) T.g_law_kinds T.F_law_kinds.kp T.b_law_kinds .nil pass0 (pa_cons (pv 2) (pa_cons pe_str pa_nil))))
      (pss_cons (ps_set (i := 10) sc_law_instruction.nd rfl (.inl rfl) (pe_call (ok_law_kinds T) (hr.mono (by decide)) (by rfl) T.g_law_kinds T.F_law_kinds.kp T.b_law_kinds .nil pass0 (pa_cons (pv 2) (pa_cons pe_str pa_nil))))
      (C8.pss_cut (ps_if (PW.pt (pw_or (pt_cmpR op_lt (pv 4) pe_int (nomark _)) (pw_or (PW.pt (pw_and (pt_cmpR op_eq (pv 4) pe_int (nomark _)) (pw_and1 (pt_cmpR op_eq (pe_callB call_len_seq (by rfl) T.z_len (by decide +kernel) (pa_cons (pv 9) pa_nil)) pe_int (nomark _))))) (pw_or1 (PW.pt (pw_and (pt_chain op_lt op_lt pe_int (pv 4) pe_int) (pw_and1 (pt_cmpR op_eq (pe_callB call_len_seq (by rfl) T.z_len (by decide +kernel) (pa_cons (pv 10) pa_nil)) pe_int (nomark _))))))))) (pss_one (ps_ret (pe_tup (pa_cons pe_str (pa_cons (pv 5) (pa_cons (pe_call (ok_law_word T) (hr.mono (by decide)) (by rfl) T.g_law_word T.F_law_word.kp T.b_law_word .nil pass0 (pa_cons (pv 0) pa_nil)) pa_nil)))))) pss_nil)
      (pss_cons (ps_if (pt_cmpR op_eq (pv 4) pe_int (nomark _)) (pss_one (ps_ret (pe_tup (pa_cons pe_str (pa_cons (pv 5) (pa_cons (pe_ix ix_list (pv 9) (pe_call (ok_law_draw T) (hr.mono (by decide)) (by rfl) T.g_law_draw T.F_law_draw.kp T.b_law_draw .nil pass0 (pa_cons (pv 0) (pa_cons (pe_callB call_len_seq (by rfl) T.z_len (by decide +kernel) (pa_cons (pv 9) pa_nil)) pa_nil))) (fun _ _ => rfl)) pa_nil)))))) pss_nil)
      (pss_cons (ps_if (pt_cmpR op_eq (pv 4) pe_int (nomark _)) (pss_one (ps_ret (pe_tup (pa_cons pe_str (pa_cons (pv 5) (pa_cons (pe_ix ix_list (pe_lst (pa_cons pe_str (pa_cons pe_str (pa_cons pe_str (pa_cons pe_str pa_nil))))) (pe_call (ok_law_draw T) (hr.mono (by decide)) (by rfl) T.g_law_draw T.F_law_draw.kp T.b_law_draw .nil pass0 (pa_cons (pv 0) (pa_cons pe_int pa_nil))) (fun _ _ => rfl)) pa_nil)))))) pss_nil)
      (pss_cons (ps_if (pt_cmpR op_eq (pv 4) pe_int (nomark _)) (pss_one (ps_ret (pe_tup (pa_cons pe_str (pa_cons (pv 5) (pa_cons (pv 6) pa_nil)))))) pss_nil)
      (pss_cons (ps_if (pt_cmpR op_eq (pv 4) pe_int (nomark _)) (pss_one (ps_ret (pe_tup (pa_cons pe_str (pa_cons (pe_ix ix_list (pe_lst (pa_cons pe_str (pa_cons pe_str (pa_cons pe_str pa_nil)))) (pe_call (ok_law_draw T) (hr.mono (by decide)) (by rfl) T.g_law_draw T.F_law_draw.kp T.b_law_draw .nil pass0 (pa_cons (pv 0) (pa_cons pe_int pa_nil))) (fun _ _ => rfl)) (pa_cons (pv 5) (pa_cons (pv 6) pa_nil))))))) pss_nil)
      (pss_cons (ps_if (pt_cmpR op_lt (pv 4) pe_int (nomark _)) (pss_cons (ps_set (i := 11) sc_law_instruction.nd rfl (.inl rfl) (pe_lst (pa_cons pe_str (pa_cons pe_str (pa_cons pe_str (pa_cons pe_str (pa_cons pe_str (pa_cons pe_str (pa_cons pe_str (pa_cons pe_str (pa_cons pe_str (pa_cons pe_str (pa_cons pe_str (pa_cons pe_str (pa_cons pe_str (pa_cons pe_str (pa_cons pe_str (pa_cons pe_str pa_nil))))))))))))))))))
      (pss_one (ps_ret (pe_tup (pa_cons pe_str (pa_cons (pe_ix ix_list (pv 11) (pe_call (ok_law_draw T) (hr.mono (by decide)) (by rfl) T.g_law_draw T.F_law_draw.kp T.b_law_draw .nil pass0 (pa_cons (pv 0) (pa_cons pe_int pa_nil))) (fun _ _ => rfl)) (pa_cons (pv 5) (pa_cons (pv 6) (pa_cons (pv 7) pa_nil))))))))) pss_nil)
      (pss_cons (ps_if (pt_cmpR op_eq (pv 4) pe_int (nomark _)) (pss_one (ps_ret (pe_tup (pa_cons pe_str (pa_cons (pe_call (ok_law_draw T) (hr.mono (by decide)) (by rfl) T.g_law_draw T.F_law_draw.kp T.b_law_draw .nil pass0 (pa_cons (pv 0) (pa_cons pe_int pa_nil))) pa_nil))))) pss_nil)
      (pss_cons (ps_if (pt_cmpR op_eq (pv 4) pe_int (nomark _)) (pss_one (ps_ret (pe_tup (pa_cons pe_str (pa_cons (pv 8) (pa_cons (pv 5) (pa_cons (pv 6) (pa_cons (pe_call (ok_law_draw T) (hr.mono (by decide)) (by rfl) T.g_law_draw T.F_law_draw.kp T.b_law_draw .nil pass0 (pa_cons (pv 0) (pa_cons pe_int pa_nil))) pa_nil)))))))) pss_nil)
      (pss_cons (ps_set (i := 12) sc_law_instruction.nd rfl (.inl rfl) (pe_ix ix_list (pv 10) (pe_call (ok_law_draw T) (hr.mono (by decide)) (by rfl) T.g_law_draw T.F_law_draw.kp T.b_law_draw .nil pass0 (pa_cons (pv 0) (pa_cons (pe_callB call_len_seq (by rfl) T.z_len (by decide +kernel) (pa_cons (pv 10) pa_nil)) pa_nil))) (fun _ _ => rfl)))
      (pss_one (ps_ret (pe_ix ix_list (pe_lst (pa_cons (pe_tup (pa_cons pe_str (pa_cons (pv 5) (pa_cons (pv 12) (pa_cons (pv 6) pa_nil))))) (pa_cons (pe_tup (pa_cons pe_str (pa_cons (pv 12) (pa_cons (pv 6) (pa_cons (pv 7) pa_nil))))) (pa_cons (pe_tup (pa_cons pe_str (pa_cons (pv 12) (pa_cons (pv 6) (pa_cons (pv 7) pa_nil))))) (pa_cons (pe_tup (pa_cons pe_str (pa_cons (pv 8) (pa_cons (pv 12) (pa_cons (pv 6) (pa_cons (pv 7) pa_nil)))))) pa_nil))))) (pe_op op_sub (pv 4) pe_int) (fun _ _ => rfl)))))))))))))))))))), ?_⟩
    have S := (St.begin (K := K) hS).put (Dt.m df)
    refine ⟨_, rfl, _, rfl, _, _, rfl, rfl, .inl ⟨by decide, by decide⟩, _, _, rfl, rfl, ?_⟩
    walk_at "draw"
    refine ⟨_, rfl, _, rfl, ?_⟩
    walk_at "draw"
    rename_i pick _ pk0 pk1
    refine ⟨_, rfl, _, rfl, ?_⟩
    walk_at "draw"
    rename_i d _ d0 d1
    refine ⟨_, rfl, _, rfl, ?_⟩
    walk_at "draw"
    rename_i r _ r0 r1
    walk_at "go"
    walk_at "draw"
    rename_i t0 _ t0' t1 _
    walk_at "pick"
    obtain ⟨fo, rfl, hfo⟩ := mem_strs (xs := folds) h4
    cases Dt.strInv (S.get (.head _))
    clear h4
    refine ⟨_, rfl, _, _, ps, ss, rfl, (S.get (by walk_at "mem")).dp, hF, fun iA Hc s n e => ?_⟩
    replace S := S.ints s n e
    clear s n e
    refine ⟨_, rfl, _, _, ps, ss, rfl, (S.get (by walk_at "mem")).dp, hF, fun aA Hc s n e => ?_⟩
    replace S := S.ints s n e
    clear s n e
    have lenI : ∀ {H' : Hp} {xs : List V}, DtAll (Mm X []) K H' xs ((kinds ps ss "int").map PyData.int) → xs.length = (kinds ps ss "int").length := fun h => by rw [h.len, List.length_map]
    have lenA : ∀ {H' : Hp} {xs : List V}, DtAll (Mm X []) K H' xs ((kinds ps ss "buffer").map PyData.int) → xs.length = (kinds ps ss "buffer").length := fun h => by rw [h.len, List.length_map]
    refine ⟨fun σ' H' => σ' = [some (.ref p), some (.int many), some fv, some (.int waits), some (.int pick), some (.int d), some (.int r), some (.int t0), some (.str fo), some (.ref iA), some (.ref aA), none, none] ∧ H' = Hc ∧ ¬ pick < 3 ∧ (pick = 3 → kinds ps ss "int" ≠ []) ∧ (9 < pick → pick < 14 → kinds ps ss "buffer" ≠ []), ?_, ?_⟩
    · refine ⟨_, rfl, _, _, rfl, rfl, _, rfl, ite2 (fun z => ?_) (fun z => ?_)⟩
      · walk_at "wordret"
      · have A1 : ¬ pick < 3 := fun e => z (decide_eq_true e)
        refine ⟨_, rfl, rfl, _, rfl, ite2 (fun z => ?_) (fun z => ?_)⟩
        · refine ⟨_, rfl, _, _, rfl, .inl (SqL.of (S.getL (a := iA) (by walk_at "mem")).1), rfl, _, rfl, ite2 (fun z => ?_) (fun z => ?_)⟩
          · walk_at "wordret"
          · repeat refine iteF ?_
            have A2 : pick = 3 → kinds ps ss "int" ≠ [] := fun _ e => z (by
              rw [lenI (S.getL (a := iA) (by walk_at "mem")).2, e]
              rfl)
            walk_at "testC"
        · have A2 : pick = 3 → kinds ps ss "int" ≠ [] := fun e => absurd (by rw [e]; rfl) z
          repeat refine iteF ?_
          walk_at "testC"
    · rintro σ' H' ⟨rfl, rfl, z1, z2, z3⟩
      have l9 := kinds_len hF "int"
      have a9 := kinds_len hF "buffer"
      have eI := lenI (S.getL (a := iA) (by walk_at "mem")).2
      have eA := lenA (S.getL (a := aA) (by walk_at "mem")).2
      have eq3 : ∀ {n : Int}, decide (V.int pick = V.int n) = true → pick = n := fun h => by have := of_decide_eq_true h; cases this; rfl
      have ne3 : ∀ {n : Int}, ¬ decide (V.int pick = V.int n) = true → pick ≠ n := fun h e => h (by rw [e]; exact decide_eq_true rfl)
      refine ⟨_, rfl, rfl, _, rfl, ite2 (fun z => ?_) (fun z => ?_)⟩
      · have hp : 0 < (kinds ps ss "int").length := List.length_pos_iff.mpr (z2 (eq3 z))
        refine ⟨_, rfl, _, rfl, _, rfl, _, rfl, _, _, rfl, .inl (SqL.of (S.getL (a := iA) (by walk_at "mem")).1), _, _, _, rfl, S.str, (by rw [eI]; omega), (by rw [eI]; omega), fun u Hc u0 u1 b s => ?_⟩
        rw [eI] at u1
        replace S := S.draw b s
        clear b s
        obtain ⟨v, e, h2, h3, h4, h5⟩ := DtAll.pick (S.getL (a := iA) (by walk_at "mem")).2 u0 (by rw [List.length_map]; exact u1)
        obtain ⟨x, rfl, hx⟩ := mem_ints h4
        cases Dt.intInv h5
        refine ⟨_, _, _, _, rfl, rfl, SqL.of (S.getL (a := iA) (by walk_at "mem")).1, h2, ?_⟩
        walk_at "go"
        exact k _ _ _ (.param ⟨d0, d1⟩ hx) S.off S.str (Dt.x (S.get (.head _)))
      have n3 := ne3 z
      refine ⟨_, rfl, rfl, _, rfl, ite2 (fun z => ?_) (fun z => ?_)⟩
      · walk_at "go"
        walk_at "draw"
        walk_at "pick"
        obtain ⟨x, rfl, hx⟩ := mem_strs (xs := specs) h4
        cases Dt.strInv (S.get (.head _))
        walk_at "go"
        exact k _ _ _ (.special ⟨d0, d1⟩ hx) S.off S.str (Dt.x (S.get (.head _)))
      have n4 := ne3 z
      refine ⟨_, rfl, rfl, _, rfl, ite2 (fun z => ?_) (fun z => ?_)⟩
      · walk_at "go"
        exact k _ _ _ (.copy ⟨d0, d1⟩ ⟨r0, r1⟩) S.off S.str (Dt.x (S.get (.head _)))
      have n5 := ne3 z
      refine ⟨_, rfl, rfl, _, rfl, ite2 (fun z => ?_) (fun z => ?_)⟩
      · walk_at "go"
        walk_at "draw"
        walk_at "pick"
        obtain ⟨x, rfl, hx⟩ := mem_strs (xs := unas) h4
        cases Dt.strInv (S.get (.head _))
        walk_at "go"
        exact k _ _ _ (.unary hx ⟨d0, d1⟩ ⟨r0, r1⟩) S.off S.str (Dt.x (S.get (.head _)))
      have n6 := ne3 z
      refine ⟨_, rfl, _, _, rfl, rfl, _, rfl, ite2 (fun z => ?_) (fun z => ?_)⟩
      · walk_at "go"
        walk_at "draw"
        walk_at "pick"
        obtain ⟨x, rfl, hx⟩ := mem_strs (xs := bins) h4
        cases Dt.strInv (S.get (.head _))
        walk_at "go"
        exact k _ _ _ (.binary hx ⟨d0, d1⟩ ⟨r0, r1⟩ ⟨t0', t1⟩) S.off S.str (Dt.x (S.get (.head _)))
      have n10 : ¬ pick < 10 := fun e => z (decide_eq_true e)
      refine ⟨_, rfl, rfl, _, rfl, ite2 (fun z => ?_) (fun z => ?_)⟩
      · have w1 : waits = 1 := by have := eq3 z; omega
        walk_at "go"
        walk_at "draw"
        walk_at "go"
        exact k _ _ _ (.barrier w1 u0 u1) S.off S.str (Dt.x (S.get (.head _)))
      have n14 := ne3 z
      refine ⟨_, rfl, rfl, _, rfl, ite2 (fun z => ?_) (fun z => ?_)⟩
      · have w1 : waits = 1 := by have := eq3 z; omega
        walk_at "go"
        walk_at "draw"
        walk_at "go"
        exact k _ _ _ (.collect w1 hfo ⟨d0, d1⟩ ⟨r0, r1⟩ u0 u1) S.off S.str (Dt.x (S.get (.head _)))
      have n15 := ne3 z
      have hp : 0 < (kinds ps ss "buffer").length := List.length_pos_iff.mpr (z3 (by omega) (by omega))
      refine ⟨_, rfl, _, rfl, _, rfl, _, _, rfl, .inl (SqL.of (S.getL (a := aA) (by walk_at "mem")).1), ?_⟩
      refine ⟨_, _, _, rfl, S.str, (by rw [eA]; omega), (by rw [eA]; omega), fun u Hc u0 u1 b s => ?_⟩
      rw [eA] at u1
      replace S := S.draw b s
      clear b s
      obtain ⟨v, e, h2, h3, h4, h5⟩ := DtAll.pick (S.getL (a := aA) (by walk_at "mem")).2 u0 (by rw [List.length_map]; exact u1)
      obtain ⟨x, rfl, hx⟩ := mem_ints h4
      cases Dt.intInv h5
      refine ⟨_, _, _, _, rfl, rfl, SqL.of (S.getL (a := aA) (by walk_at "mem")).1, h2, ?_⟩
      clear h2 h3 h4 h5
      walk_at "go"
      refine ⟨_, _, rfl, rfl, ?_⟩
      obtain ⟨v, e, h2, h3, h4, h5⟩ := DtAll.pick (S.getL (a := t) (by walk_at "mem")).2 (u := pick - 10) (by omega) (by show pick - 10 < 4; omega)
      refine ⟨_, _, _, _, rfl, rfl, SqL.of (S.getL (a := t) (by walk_at "mem")).1, h2, ?_⟩
      simp only [List.mem_cons, List.not_mem_nil, or_false] at h4
      refine k _ _ e ?_ S.off S.str (Dt.x h5)
      rcases h4 with rfl | rfl | rfl | rfl
      · exact .load ⟨d0, d1⟩ hx ⟨r0, r1⟩
      · exact .store hx ⟨r0, r1⟩ ⟨t0', t1⟩
      · exact .store hx ⟨r0, r1⟩ ⟨t0', t1⟩
      · exact .atomic hfo hx ⟨r0, r1⟩ ⟨t0', t1⟩
/-! ### lists of lists of numbers -/
structure Rows (H : Hp) (R : Addr) (rs : List Addr) (xss : List (List Int)) : Prop where
  top : H R = some (.lst (rs.map V.ref))
  nd : (R :: rs).Nodup
  len : rs.length = xss.length
  row : ∀ (k : Nat) (r : Addr) (xs : List Int), rs[k]? = some r → xss[k]? = some xs → H r = some (.lst (xs.map V.int))
section
variable {K : PySem.W.Frag} {q p : Addr} {ma : List Addr} {H0 H H' : Hp} {ps : List (V × PyData)} {ls : List (Addr × List PyData)} {R : Addr} {rs : List Addr} {xss : List (List Int)}
theorem Rows.keep (W : Rows H R rs xss) (h : ∀ b ∈ R :: rs, ∀ o, H b = some o → H' b = some o) : Rows H' R rs xss :=
  ⟨h R (.head _) _ W.top, W.nd, W.len, fun k r xs e1 e2 => h r (.tail _ (List.mem_of_getElem? e1)) _ (W.row k r xs e1 e2)⟩
theorem Rows.same (W : Rows H R rs xss) (s : Same H H') : Rows H' R rs xss := W.keep fun b _ o e => s b o e
theorem Rows.but (W : Rows H R rs xss) (b : But p H H') (n : p ∉ R :: rs) : Rows H' R rs xss := W.keep fun c m o e => b c o (fun z => n (z ▸ m)) e
theorem Rows.chg (W : Rows H R rs xss) {t : Addr} {o : HO} (n : t ∉ R :: rs) : Rows (L2.upd H t o) R rs xss := W.keep fun c m u e => by
  have z : c ≠ t := fun z => n (by rw [← z]; exact m)
  rw [upd_ne z]
  exact e
theorem Rows.nil {R : Addr} (h : H R = some (.lst [])) : Rows H R [] [] := ⟨h, by simp, rfl, fun k r xs e _ => by simp at e⟩
/-- one more row -/
theorem Rows.push (W : Rows H R rs xss) {t : Addr} {xs : List Int} (n : H t = none) : Rows (L2.upd (L2.upd H t (.lst (xs.map V.int))) R (.lst (rs.map V.ref ++ [.ref t]))) R (rs ++ [t]) (xss ++ [xs]) := by
  have tR : t ≠ R := fun e => by rw [e, W.top] at n; cases n
  have nd := List.nodup_cons.mp W.nd
  have tr : t ∉ rs := fun m => by
    obtain ⟨k, hk, e⟩ := List.getElem_of_mem m
    have hk2 : k < xss.length := by rw [← W.len]; exact hk
    have := W.row k t xss[k] (by rw [List.getElem?_eq_getElem hk, e]) (List.getElem?_eq_getElem hk2)
    rw [n] at this
    cases this
  refine ⟨by rw [upd_same, List.map_append]; rfl, ?_, by rw [List.length_append, List.length_append, W.len]; rfl, fun k r ys e1 e2 => ?_⟩
  · refine List.nodup_cons.mpr ⟨fun m => ?_, ?_⟩
    · rcases List.mem_append.mp m with m | m
      · exact nd.1 m
      · exact tR (List.mem_singleton.mp m).symm
    · refine List.nodup_append.mpr ⟨nd.2, by simp, fun a ha b hb e => ?_⟩
      rw [List.mem_singleton.mp hb] at e
      exact tr (e ▸ ha)
  · have rR : ∀ {k : Nat} {r : Addr}, rs[k]? = some r → r ≠ R := fun e z => nd.1 (z ▸ List.mem_of_getElem? e)
    by_cases hk : k < rs.length
    · rw [List.getElem?_append_left hk] at e1
      rw [List.getElem?_append_left (by rw [← W.len]; exact hk)] at e2
      have rt : r ≠ t := fun z => tr (by rw [← z]; exact List.mem_of_getElem? e1)
      rw [upd_ne (rR e1), upd_ne rt]
      exact W.row k r ys e1 e2
    · rw [List.getElem?_append_right (by omega)] at e1
      rw [List.getElem?_append_right (by rw [← W.len]; omega)] at e2
      have h0 : k - rs.length = 0 := by
        have := (List.getElem?_eq_some_iff.mp e1).1
        simp at this
        omega
      rw [h0] at e1
      rw [← W.len, h0] at e2
      cases e1
      cases e2
      rw [upd_ne tR, upd_same]
/-- a row that a call has made -/
theorem Rows.push' (W : Rows H R rs xss) {t : Addr} {xs : List Int} (s : Same H H') (n : H t = none) (h : H' t = some (.lst (xs.map V.int))) : Rows (L2.upd H' R (.lst (rs.map V.ref ++ [.ref t]))) R (rs ++ [t]) (xss ++ [xs]) := by
  have W' := W.same s
  have tR : t ≠ R := fun e => by rw [e, W.top] at n; cases n
  have P := W.push (xs := xs) n
  refine ⟨by rw [upd_same, List.map_append]; rfl, P.nd, P.len, fun k r ys e1 e2 => ?_⟩
  have rR : r ≠ R := fun z => (List.nodup_cons.mp P.nd).1 (by rw [← z]; exact List.mem_of_getElem? e1)
  rw [upd_ne rR]
  have q := P.row k r ys e1 e2
  rw [upd_ne rR] at q
  by_cases z : r = t
  · rw [z, upd_same] at q
    rw [z, h]
    exact q
  · rw [upd_ne z] at q
    exact s _ _ q
/-- a number is put behind a row -/
theorem Rows.app (W : Rows H R rs xss) {k : Nat} {r : Addr} {xs : List Int} {v : Int} (e1 : rs[k]? = some r) (e2 : xss[k]? = some xs) : Rows (L2.upd H r (.lst (xs.map V.int ++ [.int v]))) R rs (xss.set k (xs ++ [v])) := by
  have nd := List.nodup_cons.mp W.nd
  have rR : R ≠ r := fun z => nd.1 (z ▸ List.mem_of_getElem? e1)
  refine ⟨by rw [upd_ne rR]; exact W.top, W.nd, by rw [List.length_set]; exact W.len, fun j t ys f1 f2 => ?_⟩
  have hk := (List.getElem?_eq_some_iff.mp e2).1
  by_cases hj : j = k
  · subst hj
    rw [e1] at f1
    cases f1
    rw [List.getElem?_set_self hk] at f2
    cases f2
    rw [upd_same, List.map_append]
    rfl
  · have tr : t ≠ r := fun z => by
      subst z
      exact hj ((List.getElem?_inj (List.getElem?_eq_some_iff.mp f1).1 nd.2).mp (f1.trans e1.symm))
    rw [List.getElem?_set_ne (fun z => hj z.symm)] at f2
    rw [upd_ne tr]
    exact W.row j t ys f1 f2
theorem Rows.at (W : Rows H R rs xss) {k : Nat} {xs : List Int} (e : xss[k]? = some xs) : ∃ r, rs[k]? = some r ∧ SqL K H R (rs.map V.ref) ∧ atI (rs.map V.ref) (k : Int) = some (.ref r) ∧ H r = some (.lst (xs.map V.int)) := by
  have hk : k < rs.length := by rw [W.len]; exact (List.getElem?_eq_some_iff.mp e).1
  exact ⟨rs[k], List.getElem?_eq_getElem hk, SqL.of W.top, atI_nat (by rw [List.getElem?_map, List.getElem?_eq_getElem hk]; rfl), W.row k _ _ (List.getElem?_eq_getElem hk) e⟩
/-- read as data, where nothing changes them -/
theorem Rows.data (W : Rows H R rs xss) {M : Addr → Prop} (h : ∀ b ∈ R :: rs, ¬ M b) : Dt M K H (.ref R) (.list (xss.map fun xs => .list (xs.map PyData.int))) := by
  have go : ∀ (rs : List Addr) (xss : List (List Int)), rs.length = xss.length → (∀ b ∈ rs, ¬ M b) → (∀ (k : Nat) (r : Addr) (xs : List Int), rs[k]? = some r → xss[k]? = some xs → H r = some (.lst (xs.map V.int))) →
      DtAll M K H (rs.map V.ref) (xss.map fun xs => .list (xs.map PyData.int)) := by
    intro rs
    induction rs with
    | nil => intro xss hl _ _; cases xss with
      | nil => exact .nil
      | cons x r => cases hl
    | cons r rs ih => intro xss hl hm hr; cases xss with
      | nil => cases hl
      | cons x xss =>
        exact .cons (.laidL (hm r (.head _)) (hr 0 r x rfl rfl) (DtAll.ints x)) (ih xss (Nat.succ.inj hl) (fun b hb => hm b (.tail _ hb)) fun k a ys f1 f2 => hr (k + 1) a ys f1 f2)
  exact .laidL (h R (.head _)) W.top (go rs xss W.len (fun b hb => h b (.tail _ hb)) W.row)
end
/-! ### ends -/
inductive EndOk (count many : Int) : PyData → Prop
  | exit : EndOk count many (.tuple [.str "exit"])
  | jump {k : Int} : 1 ≤ k → k < count → EndOk count many (.tuple [.str "jump", .int k])
  | branch {r k m : Int} : Reg many r → 1 ≤ k → k < count → 1 ≤ m → m < count → EndOk count many (.tuple [.str "branch", .int r, .int k, .int m])
def tgts : PyData → List Int
  | .tuple [.str x, .int k] => if x = "jump" then [k] else []
  | .tuple [.str x, .int _, .int k, .int m] => if x = "branch" then (if k = m then [k] else [k, m]) else []
  | _ => []
theorem tgts_jump (k : Int) : tgts (.tuple [.str "jump", .int k]) = [k] := by
  show (if ("jump" : Str) = "jump" then [k] else []) = [k]
  rw [if_pos rfl]
theorem tgts_branch (r k m : Int) : tgts (.tuple [.str "branch", .int r, .int k, .int m]) = if k = m then [k] else [k, m] := by
  show (if ("branch" : Str) = "branch" then (if k = m then [k] else [k, m]) else []) = _
  rw [if_pos rfl]
theorem mem_branch (r k m : Int) : k ∈ tgts (.tuple [.str "branch", .int r, .int k, .int m]) ∧ m ∈ tgts (.tuple [.str "branch", .int r, .int k, .int m]) := by
  rw [tgts_branch]
  by_cases h : k = m
  · rw [if_pos h, h]; simp
  · rw [if_neg h]; simp
def EndsOk (count many : Int) (es : List PyData) : Prop := (es.length : Int) = count ∧ (∀ e ∈ es, EndOk count many e) ∧ ∀ m : Nat, 1 ≤ m → (m : Int) < count → ∃ (k : Nat) (e : PyData), k < m ∧ es[k]? = some e ∧ (m : Int) ∈ tgts e
def sp_law_ends (K : PySem.W.Frag) : Sp := fun vs H Q _ => ∃ (p q : Addr) (X : Addr → Prop) (count many : Int), vs = [.ref p, .int count, .int many] ∧ Ext q p X H ∧ 0 < many ∧ many < 1000 ∧ 1 ≤ count ∧ count ≤ 100 ∧
  ∀ r H' (es : List PyData), EndsOk count many es → But p H H' → Strm q H' p → Dt X K H' (.ref r) (.list es) → Q (.ref r) H'
/-- the rows while they grow: node n is the next one -/
structure Tree (count : Int) (n : Nat) (xss : List (List Int)) : Prop where
  len : (xss.length : Int) = count
  two : ∀ xs ∈ xss, xs.length ≤ 2
  sum : (xss.map List.length).sum + 1 = n
  late : ∀ (k : Nat) (xs : List Int), n ≤ k + 1 → xss[k]? = some xs → xs = []
  good : ∀ xs ∈ xss, ∀ x ∈ xs, 1 ≤ x ∧ x < count
  all : ∀ m : Nat, 1 ≤ m → m < n → ∃ (k : Nat) (xs : List Int), k < m ∧ xss[k]? = some xs ∧ (m : Int) ∈ xs
def freeTo (xss : List (List Int)) (j : Nat) : List Int := ((List.range j).filter fun k => decide ((xss.getD k []).length < 2)).map Int.ofNat
theorem sum_take (xss : List (List Int)) (n : Nat) (h : ∀ (k : Nat) (xs : List Int), n ≤ k → xss[k]? = some xs → xs = []) : (xss.map List.length).sum = ((xss.take n).map List.length).sum := by
  induction xss generalizing n with
  | nil => simp
  | cons x r ih =>
    cases n with
    | zero =>
      have e : ∀ (l : List (List Int)), (∀ (k : Nat) (xs : List Int), l[k]? = some xs → xs = []) → (l.map List.length).sum = 0 := by
        intro l
        induction l with
        | nil => intro _; rfl
        | cons y l il =>
          intro hl
          have hy : y = [] := hl 0 y rfl
          rw [List.map_cons, List.sum_cons, hy, il fun k xs e => hl (k + 1) xs e]
          rfl
      rw [e _ fun k xs e => h k xs (Nat.zero_le _) e]
      rfl
    | succ n =>
      rw [List.take_succ_cons, List.map_cons, List.map_cons, List.sum_cons, List.sum_cons, ih n fun k xs hk e => h (k + 1) xs (by omega) e]
theorem sum_ge : ∀ (l : List (List Int)), (∀ xs ∈ l, 2 ≤ xs.length) → 2 * l.length ≤ (l.map List.length).sum
  | [], _ => Nat.le_refl _
  | x :: r, h => by
    have a := h x (.head _)
    have b := sum_ge r fun xs m => h xs (.tail _ m)
    rw [List.map_cons, List.sum_cons, List.length_cons]
    omega
/-- some row ahead of n has room -/
theorem Tree.free {count : Int} {n : Nat} {xss : List (List Int)} (T : Tree count n xss) (h1 : 1 ≤ n) (hn : (n : Int) < count) : freeTo xss n ≠ [] := by
  intro e
  have hl : n ≤ xss.length := by have := T.len; omega
  have big : ∀ k, k < n → 2 ≤ (xss.getD k []).length := by
    intro k hk
    apply Nat.le_of_not_lt
    intro hlt
    have m : Int.ofNat k ∈ freeTo xss n := List.mem_map.mpr ⟨k, List.mem_filter.mpr ⟨List.mem_range.mpr hk, decide_eq_true hlt⟩, rfl⟩
    rw [e] at m
    cases m
  have g := sum_ge (xss.take n) fun xs m => by
    obtain ⟨k, hk, rfl⟩ := List.getElem_of_mem m
    rw [List.length_take] at hk
    have := big k (by omega)
    rw [List.getD_eq_getElem?_getD, List.getElem?_eq_getElem (by omega)] at this
    rw [List.getElem_take]
    exact this
  have s := T.sum
  rw [sum_take xss n fun k xs hk e => T.late k xs (by omega) e] at s
  rw [List.length_take] at g
  omega
theorem freeTo_mem {xss : List (List Int)} {n : Nat} {x : Int} (h : x ∈ freeTo xss n) : ∃ k : Nat, x = (k : Int) ∧ k < n ∧ (xss.getD k []).length < 2 := by
  obtain ⟨k, hk, rfl⟩ := List.mem_map.mp h
  have := List.mem_filter.mp hk
  exact ⟨k, rfl, List.mem_range.mp this.1, of_decide_eq_true this.2⟩
theorem sum_set : ∀ (l : List (List Int)) (k : Nat) (xs : List Int) (v : Int), l[k]? = some xs → ((l.set k (xs ++ [v])).map List.length).sum = (l.map List.length).sum + 1
  | [], _, _, _, e => by simp at e
  | x :: r, 0, xs, v, e => by
    cases e
    rw [List.set_cons_zero, List.map_cons, List.map_cons, List.sum_cons, List.sum_cons, List.length_append]
    show _ + 1 + _ = _
    omega
  | x :: r, k + 1, xs, v, e => by
    rw [List.set_cons_succ, List.map_cons, List.map_cons, List.sum_cons, List.sum_cons, sum_set r k xs v e]
    omega
theorem Tree.next {count : Int} {n k : Nat} {xss : List (List Int)} {xs : List Int} (T : Tree count n xss) (h1 : 1 ≤ n) (hn : (n : Int) < count) (hk : k < n) (e : xss[k]? = some xs) (h2 : xs.length < 2) : Tree count (n + 1) (xss.set k (xs ++ [(n : Int)])) := by
  have hkl := (List.getElem?_eq_some_iff.mp e).1
  have mem : ∀ ys ∈ xss.set k (xs ++ [(n : Int)]), ys ∈ xss ∨ ys = xs ++ [(n : Int)] := fun ys m => List.mem_or_eq_of_mem_set m
  refine ⟨by rw [List.length_set]; exact T.len, fun ys m => ?_, ?_, fun j ys hj f => ?_, fun ys m x hx => ?_, fun m m1 mn => ?_⟩
  · rcases mem ys m with m | rfl
    · exact T.two ys m
    · rw [List.length_append]; show _ + 1 ≤ 2; omega
  · rw [sum_set xss k xs _ e]
    have := T.sum
    omega
  · rw [List.getElem?_set_ne (by omega)] at f
    exact T.late j ys (by omega) f
  · rcases mem ys m with m | rfl
    · exact T.good ys m x hx
    · rcases List.mem_append.mp hx with hx | hx
      · exact T.good xs (List.mem_of_getElem? e) x hx
      · rw [List.mem_singleton.mp hx]; omega
  · by_cases z : m = n
    · subst z
      exact ⟨k, _, hk, by rw [List.getElem?_set_self hkl], by simp⟩
    · obtain ⟨j, ys, hj, f, g⟩ := T.all m m1 (by omega)
      by_cases jk : j = k
      · subst jk
        rw [e] at f
        cases f
        exact ⟨j, _, hj, by rw [List.getElem?_set_self hkl], by simp [g]⟩
      · exact ⟨j, ys, hj, by rw [List.getElem?_set_ne (fun z => jk z.symm)]; exact f, g⟩
theorem Tree.start (c : Nat) : Tree (c : Int) 1 (List.replicate c []) := by
  refine ⟨by rw [List.length_replicate], fun xs m => ?_, ?_, fun k xs _ e => ?_, fun xs m x hx => ?_, fun m h1 h2 => by omega⟩
  · rw [(List.mem_replicate.mp m).2]; exact Nat.zero_le _
  · have : ∀ c : Nat, ((List.replicate c ([] : List Int)).map List.length).sum = 0 := by
      intro c
      induction c with
      | zero => rfl
      | succ c ih => rw [List.replicate_succ, List.map_cons, List.sum_cons, ih]; rfl
    rw [this]
  · exact (List.mem_replicate.mp (List.mem_of_getElem? e)).2
  · rw [(List.mem_replicate.mp m).2] at hx; cases hx
theorem Rows.new {H : Hp} {R : Addr} {rs : List Addr} {xss : List (List Int)} (W : Rows H R rs xss) {t : Addr} (n : H t = none) : t ∉ R :: rs := fun m => by
  rcases List.mem_cons.mp m with m | m
  · rw [m, W.top] at n; cases n
  · obtain ⟨k, hk, e⟩ := List.getElem_of_mem m
    have hk2 : k < xss.length := by rw [← W.len]; exact hk
    have := W.row k t xss[k] (by rw [List.getElem?_eq_getElem hk, e]) (List.getElem?_eq_getElem hk2)
    rw [n] at this
    cases this
theorem freeTo_step {xss : List (List Int)} {j : Nat} {xs : List Int} (e : xss[j]? = some xs) : freeTo xss (j + 1) = freeTo xss j ++ (if xs.length < 2 then [Int.ofNat j] else []) := by
  unfold freeTo
  rw [List.range_succ, List.filter_append, List.map_append]
  congr 1
  have e2 : xss.getD j [] = xs := by rw [List.getD_eq_getElem?_getD, e]; rfl
  by_cases z : xs.length < 2
  · rw [if_pos z, List.filter_cons_of_pos (by rw [e2]; exact decide_eq_true z)]; rfl
  · rw [if_neg z, List.filter_cons_of_neg (by rw [e2, decide_eq_false z]; exact Bool.false_ne_true)]; rfl
theorem freeTo_len (xss : List (List Int)) (j : Nat) : (freeTo xss j).length ≤ j := by
  unfold freeTo
  rw [List.length_map]
  exact Nat.le_trans (List.length_filter_le _ _) (by rw [List.length_range]; exact Nat.le_refl _)
theorem Rows.upd' {H H' : Hp} {R : Addr} {rs : List Addr} {xss : List (List Int)} {t : Addr} {o : HO} (W : Rows H R rs xss) (n : H t = none) (e : L2.upd H t o = H') : Rows H' R rs xss := e ▸ W.same (same_new5 n)
set_option hygiene false
local macro_rules | `(tactic| walk_at "lenk") => `(tactic| (obtain ⟨rr, w1, w2, w3, w4⟩ := W.at e1; refine ⟨_, rfl, _, rfl, _, _, _, _, rfl, rfl, w2, (by rw [Int.zero_add]; exact w3), _, _, rfl, .inl (SqL.of w4), rfl, _, rfl, ?_⟩; clear w1 w2 w3 w4))
local macro_rules | `(tactic| walk_at "rowk") => `(tactic| (obtain ⟨rr, w1, w2, w3, w4⟩ := W.at e1; refine ⟨_, _, _, _, rfl, rfl, w2, (by rw [Int.zero_add]; exact w3), _, _, _, _, rfl, rfl, SqL.of w4, rfl, ?_⟩; clear w1 w2 w3 w4))
local macro_rules | `(tactic| walk_at "objW") => `(tactic| (refine ⟨by walk_at "size", fun t n => ?_⟩; generalize hx : L2.upd _ t _ = Hc; replace W := Rows.upd' W n hx; (first | replace S := S.tup' n hx (by walk_at "has") | replace S := S.lst' n hx (by walk_at "has")); clear n hx))
local macro_rules | `(tactic| walk_at "goW") => `(tactic| repeat (first | refine ⟨_, rfl, ?_⟩ | walk_at "objW" | walk_at "rowk"))
local macro_rules | `(tactic| walk_at "drawW") => `(tactic| (refine ⟨_, _, _, rfl, S.str, (by first | decide | omega), (by first | decide | omega), fun u Hc u0 u1 b s => ?_⟩; replace S := S.draw b s; replace W := W.but b pR; clear b s))
local macro_rules | `(tactic| walk_at "put") => `(tactic| (obtain ⟨acc, a1, a2, b1, b2, b3, b4, b5⟩ := fin _ _ _ _ _ W S (by walk_at "mem") (S.get (.head _)) (by assumption) (by assumption); exact ⟨_, _, _, rfl, rfl, a1, a2, _, _, _, _, rfl, b1, by omega, b2, b3, b4, b5⟩))
local macro_rules | `(tactic| walk_at "found") => `(tactic| (refine ⟨_, rfl, .inl ⟨rfl, _, SqL.of (S.getL (a := F) (by walk_at "mem")).1⟩, ?_⟩))
set_option hygiene true
theorem ok_law_ends (T : Tx w K mg) : FnOk P w K mg base CX0 2 T.a_law_ends T.d_law_ends ["stream", "count", "many"] (sp_law_ends K) := by
  refine T.F_law_ends.ok sc_law_ends (fun vs H Q E h => ?_) (fun cdv A outer s H vs Q E hr h => ?_)
  · obtain ⟨p, q, X, count, many, rfl, _⟩ := h
    rfl
  · obtain ⟨p, q, X, count, many, rfl, hS, m0, m1, c1, c2, k⟩ := h
    refine ⟨_, (pss_cons (ps_set (i := 4) sc_law_ends.nd rfl (.inr rfl) (pe_lc (own := [("k", 3)]) (g := gName 3) (tt := tYes) rfl sc_law_ends.nd (pi_range1 (by rfl) T.z_range (pa_cons (pv 1) pa_nil)) (blkOk_by (N := ["stream", "count", "many", "k", "rows", "node", "free", "found", "more", "r"]) (sc := defScope s_law_ends) (by decide +kernel)) (fun _ _ _ _ _ => (pg_name (i := 3) sc_law_ends.nd rfl (.inl rfl))) (fun _ _ _ _ _ => pts_nil) (fun _ _ _ _ _ => (pe_lst pa_nil))))
      (pss_cons (ps_for PassesOwn.never rfl (pi_range2 (by rfl) T.z_range (pa_cons pe_int (pa_cons (pv 1) pa_nil))) (pg_name (i := 5) sc_law_ends.nd rfl (.inl rfl)) (pss_cons (ps_setLc (i := 6) (own := [("k", 3)]) (g := gName 3)  rfl sc_law_ends.nd rfl rfl (sw_true rfl rfl rfl (by decide +kernel)) (pi_range1 (by rfl) T.z_range (pa_cons (pv 5) pa_nil)) (blkOk_by (N := ["stream", "count", "many", "k", "rows", "node", "free", "found", "more", "r"]) (sc := defScope s_law_ends) (by decide +kernel)) (fun _ _ _ _ _ => (pg_name (i := 3) sc_law_ends.nd rfl (.inl rfl))) (fun _ _ _ _ _ => (pts_one (pt_cmpR op_lt (pe_callB (show CallR _ _ (rLenS K) from call_len_seq) (by rfl) T.z_len (by decide +kernel) (pa_cons (pe_ix (show IxR _ (rIxL K) from ix_list) (pv 4) (pv 3) (fun _ _ => rfl)) pa_nil)) pe_int (nomark _)))) (fun _ _ _ _ _ => (pv 3)))
      (pss_one (ps_expr (pe_bm PySem.F.plainAttrs_list PySem.F.slot_list_append PySem.F.type_list_append mt_append (pe_ix ix_list (pv 4) (pe_ix ix_list (pv 6) (pe_call (ok_law_draw T) (hr.mono (by decide)) (by rfl) T.g_law_draw T.F_law_draw.kp T.b_law_draw .nil pass0 (pa_cons (pv 0) (pa_cons (pe_callB call_len_seq (by rfl) T.z_len (by decide +kernel) (pa_cons (pv 6) pa_nil)) pa_nil))) (fun _ _ => rfl)) (fun _ _ => rfl)) (pa_cons (pv 5) pa_nil))))))
      (pss_cons (ps_set (i := 7) sc_law_ends.nd rfl (.inl rfl) (pe_lst pa_nil))
      (pss_cons (ps_for PassesOwn.never rfl (pi_range1 (by rfl) T.z_range (pa_cons (pv 1) pa_nil)) (pg_name (i := 3) sc_law_ends.nd rfl (.inl rfl)) (pss_cons (ps_set (i := 8) sc_law_ends.nd rfl (.inl rfl) (pe_op op_add (pe_call (ok_law_draw T) (hr.mono (by decide)) (by rfl) T.g_law_draw T.F_law_draw.kp T.b_law_draw .nil pass0 (pa_cons (pv 0) (pa_cons (pe_callB (call_max2 rfl) (by rfl) T.z_max (by decide +kernel) (pa_cons pe_int (pa_cons (pe_op op_sub (pv 1) pe_int) pa_nil))) pa_nil))) pe_int))
      (pss_cons (ps_set (i := 9) sc_law_ends.nd rfl (.inl rfl) (pe_call (ok_law_draw T) (hr.mono (by decide)) (by rfl) T.g_law_draw T.F_law_draw.kp T.b_law_draw .nil pass0 (pa_cons (pv 0) (pa_cons (pv 2) pa_nil))))
      (pss_one (ps_if (PW.pt (pw_and (pt_cmpR op_eq (pe_callB call_len_seq (by rfl) T.z_len (by decide +kernel) (pa_cons (pe_ix ix_list (pv 4) (pv 3) (fun _ _ => rfl)) pa_nil)) pe_int (nomark _)) (pw_and1 (PW.pt (pw_or (pt_cmpR op_eq (pv 1) pe_int (nomark _)) (pw_or1 (pt_cmpR op_gt (pe_call (ok_law_draw T) (hr.mono (by decide)) (by rfl) T.g_law_draw T.F_law_draw.kp T.b_law_draw .nil pass0 (pa_cons (pv 0) (pa_cons pe_int pa_nil))) pe_int (nomark _)))))))) (pss_one (ps_expr (pe_bm PySem.F.plainAttrs_list PySem.F.slot_list_append PySem.F.type_list_append mt_append (pv 7) (pa_cons (pe_tup (pa_cons pe_str pa_nil)) pa_nil)))) (pss_one (ps_if (pt_cmpR op_eq (pe_callB call_len_seq (by rfl) T.z_len (by decide +kernel) (pa_cons (pe_ix ix_list (pv 4) (pv 3) (fun _ _ => rfl)) pa_nil)) pe_int (nomark _)) (pss_one (ps_expr (pe_bm PySem.F.plainAttrs_list PySem.F.slot_list_append PySem.F.type_list_append mt_append (pv 7) (pa_cons (pe_ix ix_list (pe_lst (pa_cons (pe_tup (pa_cons pe_str (pa_cons (pv 8) pa_nil))) (pa_cons (pe_tup (pa_cons pe_str (pa_cons (pv 9) (pa_cons (pv 8) (pa_cons (pe_op op_add pe_int (pe_call (ok_law_draw T) (hr.mono (by decide)) (by rfl) T.g_law_draw T.F_law_draw.kp T.b_law_draw .nil pass0 (pa_cons (pv 0) (pa_cons (pe_op op_sub (pv 1) pe_int) pa_nil)))) pa_nil))))) pa_nil))) (pe_call (ok_law_draw T) (hr.mono (by decide)) (by rfl) T.g_law_draw T.F_law_draw.kp T.b_law_draw .nil pass0 (pa_cons (pv 0) (pa_cons pe_int pa_nil))) (fun _ _ => rfl)) pa_nil)))) (pss_one (ps_if (PW.pt (pw_and (pt_cmpR op_eq (pe_callB call_len_seq (by rfl) T.z_len (by decide +kernel) (pa_cons (pe_ix ix_list (pv 4) (pv 3) (fun _ _ => rfl)) pa_nil)) pe_int (nomark _)) (pw_and1 (pt_cmpR op_eq (pe_call (ok_law_draw T) (hr.mono (by decide)) (by rfl) T.g_law_draw T.F_law_draw.kp T.b_law_draw .nil pass0 (pa_cons (pv 0) (pa_cons pe_int pa_nil))) pe_int (nomark _))))) (pss_one (ps_expr (pe_bm PySem.F.plainAttrs_list PySem.F.slot_list_append PySem.F.type_list_append mt_append (pv 7) (pa_cons (pe_tup (pa_cons pe_str (pa_cons (pe_ix ix_list (pe_ix ix_list (pv 4) (pv 3) (fun _ _ => rfl)) pe_int (fun _ _ => rfl)) pa_nil))) pa_nil)))) (pss_one (ps_if (pt_cmpR op_eq (pe_callB call_len_seq (by rfl) T.z_len (by decide +kernel) (pa_cons (pe_ix ix_list (pv 4) (pv 3) (fun _ _ => rfl)) pa_nil)) pe_int (nomark _)) (pss_one (ps_expr (pe_bm PySem.F.plainAttrs_list PySem.F.slot_list_append PySem.F.type_list_append mt_append (pv 7) (pa_cons (pe_ix ix_list (pe_lst (pa_cons (pe_tup (pa_cons pe_str (pa_cons (pv 9) (pa_cons (pe_ix ix_list (pe_ix ix_list (pv 4) (pv 3) (fun _ _ => rfl)) pe_int (fun _ _ => rfl)) (pa_cons (pv 8) pa_nil))))) (pa_cons (pe_tup (pa_cons pe_str (pa_cons (pv 9) (pa_cons (pv 8) (pa_cons (pe_ix ix_list (pe_ix ix_list (pv 4) (pv 3) (fun _ _ => rfl)) pe_int (fun _ _ => rfl)) pa_nil))))) pa_nil))) (pe_call (ok_law_draw T) (hr.mono (by decide)) (by rfl) T.g_law_draw T.F_law_draw.kp T.b_law_draw .nil pass0 (pa_cons (pv 0) (pa_cons pe_int pa_nil))) (fun _ _ => rfl)) pa_nil)))) (pss_one (ps_expr (pe_bm PySem.F.plainAttrs_list PySem.F.slot_list_append PySem.F.type_list_append mt_append (pv 7) (pa_cons (pe_tup (pa_cons pe_str (pa_cons (pv 9) (pa_cons (pe_ix ix_list (pe_ix ix_list (pv 4) (pv 3) (fun _ _ => rfl)) pe_int (fun _ _ => rfl)) (pa_cons (pe_ix ix_list (pe_ix ix_list (pv 4) (pv 3) (fun _ _ => rfl)) pe_int (fun _ _ => rfl)) pa_nil))))) pa_nil)))))))))))))))
      (pss_one (ps_ret (pv 7))))))), ?_⟩
    have S := St.begin (K := K) hS
    obtain ⟨c, rfl⟩ : ∃ c : Nat, count = (c : Int) := ⟨count.toNat, by omega⟩
    refine ⟨_, rfl, _, rfl, by omega, by omega, fun R nR => ?_⟩
    refine lc_range (n := (c : Int).toNat) (fun j H' => j ≤ c ∧ ∃ rs ma, Rows H' R rs (List.replicate j []) ∧ (∀ b ∈ R :: rs, b ∈ ma) ∧ St K q p X ma H H' [] [])
      ⟨Nat.zero_le _, [], [R], .nil upd_same, (fun b h => h), S.own' nR (same_new5 nR) (by rw [upd_same]; intro z; cases z)⟩ ?_ ?_
    · rintro j H4 hj ⟨hj2, rs, ma, W, hm, S⟩
      have hl : rs.length = j := by rw [W.len, List.length_replicate]
      refine ⟨rfl, Nat.zero_le _, fun t nt => ⟨rs.map V.ref, (same_new5 nt) _ _ W.top, small1000 (by rw [List.length_map]; omega), by omega, rs ++ [t], t :: ma, ?_, fun b hb => ?_, ?_⟩⟩
      · rw [List.replicate_succ']
        exact W.push (xs := []) nt
      · rcases List.mem_cons.mp hb with hb | hb
        · exact .tail _ (hm b (hb ▸ .head _))
        · rcases List.mem_append.mp hb with hb | hb
          · exact .tail _ (hm b (.tail _ hb))
          · rw [List.mem_singleton.mp hb]; exact .head _
      · exact (S.own' nt (same_new5 nt) (by rw [upd_same]; intro z; cases z)).chg (.tail _ (hm R (.head _))) (by simp)
    · rintro H4 ⟨_, rs, ma, W, hm, S⟩
      refine ⟨_, rfl, 1, (c : Int), rfl, ⟨by decide, by decide, by omega, by omega⟩, ?_⟩
      have ec : ((c : Int)).toNat = c := by omega
      rw [ec] at W
      refine for_range (lo := 1) (n := ((c : Int) - 1).toNat) (fun i σ H' => ∃ (yn yf : Option V) (xss : List (List Int)), σ = [some (.ref p), some (.int c), some (.int many), none, some (.ref R), yn, yf, none, none, none] ∧ Tree c (i + 1) xss ∧ Rows H' R rs xss ∧ St K q p X ma H H' [] [])
        ⟨none, none, _, rfl, Tree.start c, W, S⟩ ?_ ?_
      · rintro i σ H5 hi ⟨yn, yf, xss, rfl, Tr, W, S⟩
        have hin : ((i + 1 : Nat) : Int) < c := by omega
        have lenX := Tr.len
        refine ⟨_, rfl, _, rfl, by omega, by omega, fun D nD => ?_⟩
        refine lc_range (n := (1 + (i : Int)).toNat) (fun j H' => Same H5 H' ∧ j ≤ i + 1 ∧ H' D = some (.lst ((freeTo xss j).map V.int)))
          ⟨same_new5 nD, Nat.zero_le _, upd_same⟩ ?_ ?_
        · rintro j H6 hj ⟨s6, hj2, hD⟩
          have hjx : j < xss.length := by omega
          obtain ⟨r, e1, e2, e3, e4⟩ := (W.same s6).at (List.getElem?_eq_getElem hjx)
          have st := freeTo_step (List.getElem?_eq_getElem hjx)
          have ln := freeTo_len xss j
          refine ⟨rfl, _, rfl, _, rfl, _, _, _, _, rfl, rfl, e2, (by rw [Int.zero_add]; exact e3), _, _, rfl, .inl (SqL.of e4), _, _, rfl, rfl, _, rfl, ite2 (fun z => ?_) (fun z => ?_)⟩
          · have z' : xss[j].length < 2 := by have := of_decide_eq_true z; rw [List.length_map] at this; omega
            refine ⟨_, rfl, _, hD, small1000 (by rw [List.length_map]; omega), ?_, by omega, ?_⟩
            · intro b' o' hb
              by_cases eb : b' = D
              · subst eb; rw [nD] at hb; cases hb
              · rw [upd_ne eb]; exact s6 _ _ hb
            · rw [upd_same, st, if_pos z', List.map_append, Int.zero_add]; rfl
          · have z' : ¬ xss[j].length < 2 := fun h => z (decide_eq_true (by rw [List.length_map]; omega))
            refine ⟨s6, by omega, ?_⟩
            rw [st, if_neg z', List.append_nil]; exact hD
        · rintro H6 ⟨s6, _, hD⟩
          have en : (1 + (i : Int)).toNat = i + 1 := by omega
          rw [en] at hD
          have fr := Tr.free (by omega) hin
          have fl := freeTo_len xss (i + 1)
          have fp : 0 < (freeTo xss (i + 1)).length := List.length_pos_iff.mpr fr
          have W6 := W.same s6
          have S6 := S.ints s6 nD hD
          refine ⟨_, rfl, _, rfl, _, rfl, _, rfl, _, _, rfl, .inl (SqL.of hD), _, _, _, rfl, S6.str, (by rw [List.length_map]; omega), (by rw [List.length_map]; omega), fun u H7 u0 u1 b s => ?_⟩
          rw [List.length_map] at u1
          have pR : p ∉ R :: rs := fun m => S6.p0 ((S6.own p (hm p m)).1)
          have hD7 : H7 D = some (.lst ((freeTo xss (i + 1)).map V.int)) := b _ _ (fun z => S.hp (z ▸ nD)) hD
          obtain ⟨x, h1, h2, h3⟩ := ints_at hD7 u0 (by omega)
          obtain ⟨j, rfl, hj, hj2⟩ := freeTo_mem h3
          have hjx : j < xss.length := by omega
          rw [List.getD_eq_getElem?_getD, List.getElem?_eq_getElem hjx] at hj2
          have W7 := W6.but b pR
          obtain ⟨r, e1, e2, e3, e4⟩ := W7.at (List.getElem?_eq_getElem hjx)
          refine ⟨_, _, _, _, rfl, rfl, h1, h2, _, _, _, _, rfl, rfl, e2, e3, .inl ⟨rfl, _, SqL.of e4⟩, ?_⟩
          have S7 := (S6.draw b s).bare
          refine ⟨_, rfl, _, _, _, rfl, rfl, e4, small1000 (by rw [List.length_map]; exact Nat.le_trans (Tr.two _ (List.getElem_mem hjx)) (by decide)), _, _, _, rfl, Tr.next (by omega) hin (by omega) (List.getElem?_eq_getElem hjx) hj2, ?_, ?_⟩
          · have := W7.app (v := ((i + 1 : Nat) : Int)) e1 (List.getElem?_eq_getElem hjx)
            rw [show (1 + (i : Int)) = ((i + 1 : Nat) : Int) by omega]
            exact this
          · exact S7.chg (hm r (.tail _ (List.mem_of_getElem? e1))) (by simp)
      · rintro σ H5 ⟨yn, yf, xss, rfl, Tr, W, S⟩
        have ec2 : ((c : Int) - 1).toNat + 1 = c := by omega
        rw [ec2] at Tr
        have lenX := Tr.len
        refine ⟨Nat.zero_le _, fun F nF => ?_⟩
        have S6 := S.mut' (xs := []) nF rfl .nil
        have W6 := W.same (same_new5 (o := .lst []) nF)
        have nFR := W.new nF
        have pR : p ∉ R :: rs := fun m => S.p0 ((S.own p (hm p m)).1)
        refine ⟨_, rfl, c, rfl, by omega, by omega, ?_⟩
        refine for_range (n := (c : Int).toNat) (fun i σ H' => ∃ (yk ym yr : Option V) (es : List PyData), σ = [some (.ref p), some (.int c), some (.int many), yk, some (.ref R), yn, yf, some (.ref F), ym, yr] ∧ es.length = i ∧ i ≤ c ∧ (∀ e ∈ es, EndOk c many e) ∧
            (∀ (j : Nat) (e : PyData) (xs : List Int), es[j]? = some e → xss[j]? = some xs → ∀ x ∈ xs, x ∈ tgts e) ∧ Rows H' R rs xss ∧ St K q p X (F :: ma) H H' [] [(F, es)])
          ⟨none, none, none, [], rfl, rfl, Nat.zero_le _, (fun e m => by cases m), (fun j e xs h => by simp at h), W6, S6⟩ ?_ ?_
        · rintro i σ H7 hi ⟨yk, ym, yr, es, rfl, hes, hic, hok, htg, W, S⟩
          have hix : i < xss.length := by omega
          have e1 := List.getElem?_eq_getElem hix
          have x2 := Tr.two _ (List.getElem_mem hix)
          have xg := Tr.good _ (List.getElem_mem hix)
          generalize xss[i] = xs at e1 x2 xg
          refine ⟨_, rfl, _, rfl, _, _, rfl, rfl, _, _, rfl, ?_⟩
          refine ⟨_, _, _, rfl, S.str, (by split <;> omega), (by split <;> omega), fun u Hc u0 u1 b s => ?_⟩
          replace W := W.but b pR
          replace S := S.draw b s
          clear b s
          refine ⟨_, _, rfl, rfl, ?_⟩
          have more1 : 1 ≤ u + 1 := by omega
          have more2 : 2 ≤ (c : Int) → u + 1 < c := fun h => by split at u1 <;> omega
          refine ⟨_, rfl, _, rfl, ?_⟩
          refine ⟨_, _, _, rfl, S.str, (by omega), (by omega), fun r Hc r0 r1 b s => ?_⟩
          replace W := W.but b pR
          replace S := S.draw b s
          clear b s
          -- the end of each way: an end is put behind the others
          have fin : ∀ (Hx : Hp) (ps : List (V × PyData)) (ls : List (Addr × List PyData)) (v : V) (e : PyData), Rows Hx R rs xss → St K q p X (F :: ma) H Hx ps ls → (F, es) ∈ ls → Dt (Mm X (F :: ma)) K Hx v e → EndOk c many e → (∀ x ∈ xs, x ∈ tgts e) →
              ∃ acc, Hx F = some (.lst acc) ∧ acc.length < sizeLine ∧ (es ++ [e]).length = i + 1 ∧ (∀ d ∈ es ++ [e], EndOk c many d) ∧ (∀ (j : Nat) (d : PyData) (ys : List Int), (es ++ [e])[j]? = some d → xss[j]? = some ys → ∀ x ∈ ys, x ∈ tgts d) ∧
                Rows (L2.upd Hx F (.lst (acc ++ [v]))) R rs xss ∧ St K q p X (F :: ma) H (L2.upd Hx F (.lst (acc ++ [v]))) [] [(F, es ++ [e])] := by
            intro Hx ps ls v e Wx Sx hF he ok tg
            have S1 : St K q p X (F :: ma) H Hx [] [(F, es)] := Sx.sub (fun _ h => by cases h) (List.singleton_sublist.mpr hF)
            obtain ⟨acc, a1, a2, S2⟩ := S1.snoc (.head _) he (by omega)
            refine ⟨acc, a1, a2, by rw [List.length_append, hes]; rfl, fun d hd => ?_, fun j d ys f1 f2 => ?_, Wx.chg nFR, S2⟩
            · rcases List.mem_append.mp hd with hd | hd
              · exact hok d hd
              · rw [List.mem_singleton.mp hd]; exact ok
            · by_cases hj : j < es.length
              · rw [List.getElem?_append_left hj] at f1
                exact htg j d ys f1 f2
              · rw [List.getElem?_append_right (by omega)] at f1
                obtain rfl : j = i := by
                  have := (List.getElem?_eq_some_iff.mp f1).1
                  simp at this
                  omega
                rw [hes, Nat.sub_self] at f1
                cases f1
                rw [e1] at f2
                cases f2
                exact tg
          rcases xs with _ | ⟨x1, _ | ⟨y2, xs⟩⟩
          · -- no row
            have ok : EndOk c many (.tuple [.str "exit"]) := .exit
            have tg : ∀ x ∈ ([] : List Int), x ∈ tgts (.tuple [.str "exit"]) := fun x h => by cases h
            walk_at "lenk"
            refine ite2 (fun z => ?_) (fun z => absurd rfl z)
            refine ⟨_, rfl, rfl, _, rfl, ite2 (fun z => ?_) (fun z => ?_)⟩
            · refine iteT ?_
              walk_at "found"
              walk_at "objW"
              walk_at "put"
            · have c2' : 2 ≤ (c : Int) := by
                have : ¬ (c : Int) = 1 := fun e => z (by rw [e]; rfl)
                omega
              refine ⟨_, rfl, ?_⟩
              walk_at "drawW"
              refine ⟨_, _, rfl, rfl, _, rfl, ite2 (fun z => ?_) (fun z => ?_)⟩
              · repeat refine iteT ?_
                walk_at "found"
                walk_at "objW"
                walk_at "put"
              · repeat refine iteF ?_
                walk_at "lenk"
                refine ite2 (fun z => ?_) (fun z => absurd rfl z)
                walk_at "found"
                walk_at "goW"
                refine ⟨_, _, rfl, rfl, ?_⟩
                walk_at "drawW"
                rename_i uu _ uu0 uu1
                refine ⟨_, _, rfl, rfl, ?_⟩
                have mb : 1 ≤ 1 + u ∧ 1 + u < c := by omega
                walk_at "goW"
                walk_at "drawW"
                walk_at "pick"
                simp only [List.mem_cons, List.not_mem_nil, or_false] at h4
                have ok : EndOk c many e := by
                  rcases h4 with rfl | rfl
                  · exact .jump more1 (more2 c2')
                  · exact .branch ⟨r0, r1⟩ more1 (more2 c2') mb.1 mb.2
                have tg : ∀ x ∈ ([] : List Int), x ∈ tgts e := fun x h => by cases h
                walk_at "put"
          · -- one row
            have gx := xg x1 (.head _)
            have c2' : 2 ≤ (c : Int) := by omega
            walk_at "lenk"
            refine ite2 (fun z => by have := of_decide_eq_true z; simp at this) (fun z => ?_)
            repeat refine iteF ?_
            walk_at "lenk"
            refine ite2 (fun z => by have := of_decide_eq_true z; simp at this) (fun z => ?_)
            repeat refine iteF ?_
            walk_at "lenk"
            refine ite2 (fun z => ?_) (fun z => absurd rfl z)
            refine ⟨_, rfl, ?_⟩
            walk_at "drawW"
            refine ⟨rfl, _, rfl, ite2 (fun z => ?_) (fun z => ?_)⟩
            · repeat refine iteT ?_
              have ok : EndOk c many (.tuple [.str "jump", .int x1]) := .jump gx.1 gx.2
              have tg : ∀ x ∈ [x1], x ∈ tgts (.tuple [.str "jump", .int x1]) := fun x h => by rw [tgts_jump]; exact h
              walk_at "found"
              walk_at "goW"
              walk_at "put"
            · repeat refine iteF ?_
              walk_at "lenk"
              refine ite2 (fun z => ?_) (fun z => absurd rfl z)
              walk_at "found"
              walk_at "goW"
              walk_at "drawW"
              walk_at "pick"
              simp only [List.mem_cons, List.not_mem_nil, or_false] at h4
              have ok : EndOk c many e := by
                rcases h4 with rfl | rfl
                · exact .branch ⟨r0, r1⟩ gx.1 gx.2 more1 (more2 c2')
                · exact .branch ⟨r0, r1⟩ more1 (more2 c2') gx.1 gx.2
              have tg : ∀ x ∈ [x1], x ∈ tgts e := fun x h => by
                rw [List.mem_singleton.mp h]
                rcases h4 with rfl | rfl
                · exact (mem_branch _ _ _).1
                · exact (mem_branch _ _ _).2
              walk_at "put"
          · -- two rows
            obtain rfl : xs = [] := by
              cases xs with
              | nil => rfl
              | cons y ys => simp at x2
            have gx := xg x1 (.head _)
            have gy := xg y2 (.tail _ (.head _))
            walk_at "lenk"
            refine ite2 (fun z => by have := of_decide_eq_true z; simp at this) (fun z => ?_)
            repeat refine iteF ?_
            walk_at "lenk"
            refine ite2 (fun z => by have := of_decide_eq_true z; simp at this) (fun z => ?_)
            repeat refine iteF ?_
            walk_at "lenk"
            refine ite2 (fun z => by have := of_decide_eq_true z; simp at this) (fun z => ?_)
            repeat refine iteF ?_
            walk_at "lenk"
            refine ite2 (fun z => by have := of_decide_eq_true z; simp at this) (fun z => ?_)
            repeat refine iteF ?_
            have ok : EndOk c many (.tuple [.str "branch", .int r, .int x1, .int y2]) := .branch ⟨r0, r1⟩ gx.1 gx.2 gy.1 gy.2
            have tg : ∀ x ∈ [x1, y2], x ∈ tgts (.tuple [.str "branch", .int r, .int x1, .int y2]) := fun x h => by
              rcases List.mem_cons.mp h with rfl | h
              · exact (mem_branch _ _ _).1
              · rw [List.mem_singleton.mp h]; exact (mem_branch _ _ _).2
            walk_at "found"
            walk_at "goW"
            walk_at "put"
        · rintro σ H7 ⟨yk, ym, yr, es, rfl, hes, hic, hok, htg, W, S⟩
          refine ⟨_, rfl, k F H7 es ⟨by omega, hok, fun m h1 h2 => ?_⟩ S.off S.str (Dt.x ((S.calm (mb := []) (fun _ h => by cases h)).list (.head _) (by simp)))⟩
          obtain ⟨j, xs, hj, f1, f2⟩ := Tr.all m h1 (by omega)
          have hje : j < es.length := by omega
          exact ⟨j, es[j], hj, List.getElem?_eq_getElem hje, htg j _ xs (List.getElem?_eq_getElem hje) f1 _ f2⟩
/-! ### flow graphs -/
def NodeOk (many : Int) (ps ss : List PyData) (waits : Int) (e d : PyData) : Prop := ∃ is, d = .tuple [.tuple is, e] ∧ is.length ≤ 5 ∧ ∀ i ∈ is, Ins many ps ss waits i
structure Flow (most waits : Int) (ps ss : List PyData) (many : Int) (nodes es : List PyData) : Prop where
  frame : FrameOk ps ss
  m2 : 2 ≤ many
  m6 : many ≤ 6
  len : nodes.length = es.length
  most : (nodes.length : Int) ≤ most
  pos : 1 ≤ nodes.length
  ends : EndsOk nodes.length many es
  node : ∀ (i : Nat) (d e : PyData), nodes[i]? = some d → es[i]? = some e → NodeOk many ps ss waits e d
def flowD (ps ss : List PyData) (many : Int) (nodes : List PyData) : PyData := .tuple [.tuple ps, .tuple ss, .int many, .tuple nodes]
def sp_law_flow (K : PySem.W.Frag) : Sp := fun vs H Q _ => ∃ (p q : Addr) (X : Addr → Prop) (most waits : Int), vs = [.ref p, .int most, .int waits] ∧ Ext q p X H ∧ 1 ≤ most ∧ most ≤ 99 ∧ (waits = 0 ∨ waits = 1) ∧
  ∀ (v : V) H' (ps ss : List PyData) (many : Int) (nodes es : List PyData), Flow most waits ps ss many nodes es → But p H H' → Strm q H' p → Dt X K H' v (flowD ps ss many nodes) → Q v H'
theorem ok_law_flow (T : Tx w K mg) : FnOk P w K mg base CX0 4 T.a_law_flow T.d_law_flow ["stream", "most", "waits"] (sp_law_flow K) := by
  refine T.F_law_flow.ok sc_law_flow (fun vs H Q E h => ?_) (fun cdv A outer s H vs Q E hr h => ?_)
  · obtain ⟨p, q, X, most, waits, rfl, _⟩ := h
    rfl
  · obtain ⟨p, q, X, most, waits, rfl, hS, c1, c2, hw, k⟩ := h
    refine ⟨_, (pss_cons (ps_set (i := 3) sc_law_flow.nd rfl (.inr rfl) (pe_op op_add pe_int (pe_call (ok_law_draw T) (hr.mono (by decide)) (by rfl) T.g_law_draw T.F_law_draw.kp T.b_law_draw .nil pass0 (pa_cons (pv 0) (pa_cons pe_int pa_nil)))))
      (pss_cons (ps_set (i := 4) sc_law_flow.nd rfl (.inr rfl) (pe_call (ok_law_frame T) (hr.mono (by decide)) (by rfl) T.g_law_frame T.F_law_frame.kp T.b_law_frame .nil pass0 (pa_cons (pv 0) pa_nil)))
      (pss_cons (ps_set (i := 5) sc_law_flow.nd rfl (.inl rfl) (pe_op op_add pe_int (pe_call (ok_law_draw T) (hr.mono (by decide)) (by rfl) T.g_law_draw T.F_law_draw.kp T.b_law_draw .nil pass0 (pa_cons (pv 0) (pa_cons (pv 1) pa_nil)))))
      (pss_cons (ps_set (i := 6) sc_law_flow.nd rfl (.inl rfl) (pe_call (ok_law_ends T) (hr.mono (by decide)) (by rfl) T.g_law_ends T.F_law_ends.kp T.b_law_ends .nil pass0 (pa_cons (pv 0) (pa_cons (pv 5) (pa_cons (pv 3) pa_nil)))))
      (pss_cons (ps_set (i := 7) sc_law_flow.nd rfl (.inl rfl) (pe_lst pa_nil))
      (pss_cons (ps_for PassesOwn.never rfl (pi_range1 (by rfl) T.z_range (pa_cons (pv 5) pa_nil)) (pg_name (i := 8) sc_law_flow.nd rfl (.inl rfl)) (pss_cons (ps_setLc (i := 9) (own := [("j", 10)]) (g := gName 10) (tt := tYes) rfl sc_law_flow.nd rfl rfl (sw_true rfl rfl rfl (by decide +kernel)) (pi_range1 (by rfl) T.z_range (pa_cons (pe_call (ok_law_draw T) (hr.mono (by decide)) (by rfl) T.g_law_draw T.F_law_draw.kp T.b_law_draw .nil pass0 (pa_cons (pv 0) (pa_cons pe_int pa_nil))) pa_nil)) (blkOk_by (N := ["stream", "most", "waits", "many", "frame", "count", "ends", "nodes", "k", "rows", "j"]) (sc := defScope s_law_flow) (by decide +kernel)) (fun _ _ _ _ _ => (pg_name (i := 10) sc_law_flow.nd rfl (.inl rfl))) (fun _ _ _ _ _ => pts_nil) (fun _ _ _ _ _ => (pe_call (ok_law_instruction T) (hr.mono (by decide)) (by rfl) T.g_law_instruction T.F_law_instruction.kp T.b_law_instruction .nil pass0 (pa_cons (pv 0) (pa_cons (pv 3) (pa_cons (pv 4) (pa_cons (pv 2) pa_nil)))))))
      (pss_one (ps_expr (pe_bm PySem.F.plainAttrs_list PySem.F.slot_list_append PySem.F.type_list_append mt_append (pv 7) (pa_cons (pe_tup (pa_cons (pe_callTy call_tuple_of (by rfl) T.z_tuple (by decide +kernel) (pa_cons (pv 9) pa_nil)) (pa_cons (pe_ix ix_list (pv 6) (pv 8) (fun _ _ => rfl)) pa_nil))) pa_nil))))))
      (pss_one (ps_ret (pe_tup (pa_cons (pe_ix ix_tup (pv 4) pe_int (fun _ _ => rfl)) (pa_cons (pe_ix ix_tup (pv 4) pe_int (fun _ _ => rfl)) (pa_cons (pv 3) (pa_cons (pe_callTy call_tuple_of (by rfl) T.z_tuple (by decide +kernel) (pa_cons (pv 7) pa_nil)) pa_nil))))))))))))), ?_⟩
    have S := St.begin (K := K) hS
    refine ⟨_, rfl, ?_⟩
    walk_at "draw"
    refine ⟨_, _, rfl, rfl, _, rfl, p, q, _, rfl, S.ext, fun fv Hc ps ss hF b s df => ?_⟩
    replace S := (S.draw b s).put df
    clear b s df
    have m2 : 2 ≤ 2 + u := by omega
    have m6 : 2 + u ≤ 6 := by omega
    refine ⟨_, rfl, _, rfl, ?_⟩
    walk_at "draw"
    rename_i um _ _ _ _
    refine ⟨_, _, rfl, rfl, _, rfl, _, rfl, _, rfl, p, q, _, _, _, rfl, S.ext, by omega, by omega, by omega, by omega, fun eA Hc es hE b s de => ?_⟩
    replace S := (S.draw b s).put de
    clear b s de
    obtain ⟨c, hc⟩ : ∃ c : Nat, 1 + u = (c : Int) := ⟨(1 + u).toNat, by omega⟩
    rw [hc] at hE
    have cm : (c : Int) ≤ most := by omega
    have c1' : 1 ≤ c := by omega
    refine ⟨Nat.zero_le _, fun N nN => ?_⟩
    replace S := S.mut' (xs := []) nN rfl .nil
    refine ⟨_, rfl, 1 + u, rfl, by omega, by omega, ?_⟩
    have hce := hE.1
    refine for_range (n := (1 + u).toNat) (fun i σ H' => ∃ (yk yr : Option V) (ds : List PyData), σ = [some (.ref p), some (.int most), some (.int waits), some (.int (2 + um)), some fv, some (.int (1 + u)), some (.ref eA), some (.ref N), yk, yr, none] ∧ ds.length = i ∧ i ≤ c ∧
        (∀ (j : Nat) (d e : PyData), ds[j]? = some d → es[j]? = some e → NodeOk (2 + um) ps ss waits e d) ∧ St K q p X [N] H H' [(.ref eA, .list es), (fv, .tuple [.tuple ps, .tuple ss])] [(N, ds)])
      ⟨none, none, [], rfl, rfl, Nat.zero_le _, (fun j d e h => by simp at h), S⟩ ?_ ?_
    · rintro i σ H4 hi ⟨yk, yr, ds, rfl, hds, hic, hno, S⟩
      refine ⟨_, rfl, ?_⟩
      walk_at "draw"
      refine ⟨u, rfl, by omega, by omega, fun D nD => ?_⟩
      replace S := S.mut' (xs := []) nD rfl .nil
      have l5 : u.toNat ≤ 5 := by omega
      generalize u.toNat = un at l5
      refine lc_range (n := un) (fun j H' => ∃ is, is.length = j ∧ j ≤ 5 ∧ (∀ x ∈ is, Ins (2 + um) ps ss waits x) ∧ St K q p X [D, N] H H' [(.ref eA, .list es), (fv, .tuple [.tuple ps, .tuple ss])] [(D, is), (N, ds)])
        ⟨[], rfl, by omega, (fun x h => by cases h), S⟩ ?_ ?_
      · rintro j H5 hj ⟨is, hil, hj5, hin, S⟩
        refine ⟨rfl, _, rfl, _, rfl, _, rfl, _, rfl, p, q, _, 2 + um, waits, fv, ps, ss, rfl, S.ext, by omega, by omega, hw, S.get (by walk_at "mem"), hF, fun v Hc d hd b s dd => ?_⟩
        replace S := S.draw b s
        obtain ⟨acc, a1, a2, S2⟩ := S.snoc (.head _) dd (by omega)
        refine ⟨acc, a1, a2, is ++ [d], by rw [List.length_append, hil]; rfl, by omega, fun x hx => ?_, S2⟩
        rcases List.mem_append.mp hx with hx | hx
        · exact hin x hx
        · rw [List.mem_singleton.mp hx]; exact hd
      · rintro H5 ⟨is, hil, hj5, hin, S⟩
        have hie : i < es.length := by omega
        -- nodes.append((tuple(rows), ends[k]))
        refine ⟨_, rfl, .inl ⟨rfl, _, SqL.of (S.getL (a := N) (by walk_at "mem")).1⟩, _, rfl, D, _, rfl, .inl ⟨SqL.of (S.getL (a := D) (by walk_at "mem")).1, fun t n => ?_⟩⟩
        generalize hx : L2.upd _ t _ = Hc
        have S2 : St K q p X [N] H Hc ((.ref t, .tuple is) :: _) ((N, ds) :: _) := (S.tup' n hx (S.getL (.head _)).2).dropL.calm1
        clear n hx S
        have S := S2
        clear S2
        obtain ⟨ea, exs, ee, e1, e2⟩ := Dt.lstInv (S.get (v := .ref eA) (by walk_at "mem"))
        cases ee
        obtain ⟨ve, e, e3, e4, _, e5⟩ := DtAll.pick e2 (u := 0 + (i : Int)) (by omega) (by omega)
        have e4' : es[i]? = some e := by rw [← e4]; congr 1; omega
        refine ⟨_, rfl, _, rfl, _, _, _, _, rfl, rfl, e1, e3, ?_⟩
        replace S := S.put e5
        clear e1 e2 e3 e4 e5
        walk_at "obj"
        obtain ⟨acc, a1, a2, S2⟩ := S.snoc (.head _) (S.get (.head _)) (by omega)
        refine ⟨_, _, _, rfl, rfl, a1, a2, _, _, _, rfl, by rw [List.length_append, hds]; rfl, by omega, fun j d e' f1 f2 => ?_, S2.sub (fun x hx => by
          rcases List.mem_cons.mp hx with rfl | hx
          · walk_at "mem"
          · rw [List.mem_singleton.mp hx]; walk_at "mem") (List.Sublist.refl _)⟩
        by_cases hj : j < ds.length
        · rw [List.getElem?_append_left hj] at f1
          exact hno j d e' f1 f2
        · rw [List.getElem?_append_right (by omega)] at f1
          obtain rfl : j = i := by
            have := (List.getElem?_eq_some_iff.mp f1).1
            simp at this
            omega
          rw [hds, Nat.sub_self] at f1
          cases f1
          rw [e4'] at f2
          cases f2
          exact ⟨is, rfl, by omega, hin⟩
    · rintro σ H4 ⟨yk, yr, ds, rfl, hds, hic, hno, S⟩
      have hdc : ds.length = c := by omega
      obtain ⟨fa, fxs, ee, g1, g2⟩ := Dt.tupInv (S.get (v := fv) (by walk_at "mem"))
      cases ee
      obtain ⟨v0, d0, f1, f2, _, f3⟩ := DtAll.pick g2 (u := 0) (by decide) (by show (0 : Int) < 2; decide)
      obtain ⟨v1, d1, q1, q2, _, q3⟩ := DtAll.pick g2 (u := 1) (by decide) (by show (1 : Int) < 2; decide)
      cases f2
      cases q2
      refine ⟨_, rfl, _, _, _, _, rfl, rfl, g1, f1, _, rfl, _, _, _, _, rfl, rfl, g1, q1, _, rfl, _, rfl, N, _, rfl, .inl ⟨SqL.of (S.getL (a := N) (by walk_at "mem")).1, fun t n => ?_⟩⟩
      have S3 := (S.put f3).put q3
      generalize hx : L2.upd _ t _ = Hc
      have S2 := ((S3.tup' n hx (S3.getL (.head _)).2)).dropL.calm1
      clear n hx S S3 f1 f3 q1 q3 g1 g2
      have S := S2
      walk_at "go"
      exact k _ _ ps ss (2 + um) ds es ⟨hF, m2, m6, by omega, by omega, by omega, by rw [hdc]; exact hE, hno⟩ S.off S.str (Dt.x (S.get (.head _)))
/-! ### where the nodes lead -/
def IsEnd (e : PyData) : Prop := ∃ count many, EndOk count many e
def sp_targets (K : PySem.W.Frag) : Sp := fun vs H Q _ => ∃ (v : V) (e : PyData), vs = [v] ∧ Dp K H v e ∧ IsEnd e ∧ ∀ r H', Same H H' → H r = none → H' r = some (.lst ((tgts e).map V.int)) → Q (.ref r) H'
theorem ok_targets (T : Tx w K mg) : FnOk P w K mg base CX0 1 T.a_targets T.d_targets ["end"] (sp_targets K) := by
  refine T.F_targets.ok sc_targets (fun vs H Q E h => ?_) (fun cdv A outer s H vs Q E hr h => ?_)
  · obtain ⟨v, e, rfl, _⟩ := h
    rfl
  · obtain ⟨v, e, rfl, dv, ⟨count, many, he⟩, k⟩ := h
    refine ⟨_, (pss_cons (ps_if (pt_cmpR op_eq (pe_ix ix_tup (pv 0) pe_int (fun _ _ => rfl)) pe_str (nomark _)) (pss_one (ps_ret (pe_lst (pa_cons (pe_ix ix_tup (pv 0) pe_int (fun _ _ => rfl)) pa_nil)))) pss_nil)
      (pss_cons (ps_if (pt_cmpR op_eq (pe_ix ix_tup (pv 0) pe_int (fun _ _ => rfl)) pe_str (nomark _)) (pss_one (ps_ret (pe_ifExp (pt_cmpR op_eq (pe_ix ix_tup (pv 0) pe_int (fun _ _ => rfl)) (pe_ix ix_tup (pv 0) pe_int (fun _ _ => rfl)) (nomark _)) (pe_lst (pa_cons (pe_ix ix_tup (pv 0) pe_int (fun _ _ => rfl)) pa_nil)) (pe_lst (pa_cons (pe_ix ix_tup (pv 0) pe_int (fun _ _ => rfl)) (pa_cons (pe_ix ix_tup (pv 0) pe_int (fun _ _ => rfl)) pa_nil)))))) pss_nil)
      (pss_one (ps_ret (pe_lst pa_nil))))), ?_⟩
    cases he with
    | exit =>
      obtain ⟨a, xs, u0, rfl, h1, h2, h3⟩ := Dp.item dv (i := 0) rfl
      cases Dp.strInv h3
      refine ⟨_, rfl, _, _, _, _, rfl, rfl, h1, h2, rfl, _, rfl, ite2 (fun z => absurd z (by decide +kernel)) (fun _ => ?_)⟩
      refine ⟨_, rfl, _, _, _, _, rfl, rfl, h1, h2, rfl, _, rfl, ite2 (fun z => absurd z (by decide +kernel)) (fun _ => ?_)⟩
      exact ⟨Nat.zero_le _, fun r nr => k r _ (same_new5 nr) nr upd_same⟩
    | @jump kk k1 k2 =>
      obtain ⟨a, xs, u0, rfl, h1, h2, h3⟩ := Dp.item dv (i := 0) rfl
      cases Dp.strInv h3
      obtain ⟨a', xs', u1, e1, g1, g2, g3⟩ := Dp.item dv (i := 1) rfl
      cases e1
      cases Dp.intInv g3
      refine ⟨_, rfl, _, _, _, _, rfl, rfl, h1, h2, rfl, _, rfl, ite2 (fun _ => ?_) (fun z => absurd rfl z)⟩
      refine ⟨_, rfl, _, _, _, _, rfl, rfl, g1, g2, ?_⟩
      exact ⟨by walk_at "size", fun r nr => k r _ (same_new5 nr) nr (by rw [tgts_jump]; exact upd_same)⟩
    | @branch r0 kk m hr0 k1 k2 m1 m2 =>
      obtain ⟨a, xs, u0, rfl, h1, h2, h3⟩ := Dp.item dv (i := 0) rfl
      cases Dp.strInv h3
      obtain ⟨a', xs', u1, e1, g1, g2, g3⟩ := Dp.item dv (i := 2) rfl
      cases e1
      cases Dp.intInv g3
      obtain ⟨a', xs'', u1, e1, f1, f2, f3⟩ := Dp.item dv (i := 3) rfl
      cases e1
      cases Dp.intInv f3
      refine ⟨_, rfl, _, _, _, _, rfl, rfl, h1, h2, rfl, _, rfl, ite2 (fun z => absurd z (by decide +kernel)) (fun _ => ?_)⟩
      refine ⟨_, rfl, _, _, _, _, rfl, rfl, h1, h2, rfl, _, rfl, ite2 (fun _ => ?_) (fun z => absurd rfl z)⟩
      refine ⟨_, rfl, _, _, _, _, rfl, rfl, g1, g2, _, rfl, _, _, _, _, rfl, rfl, f1, f2, rfl, _, rfl, ite2 (fun z => ?_) (fun z => ?_)⟩
      · have z' : kk = m := by have := of_decide_eq_true z; cases this; rfl
        refine ⟨_, rfl, _, _, _, _, rfl, rfl, g1, g2, ?_⟩
        exact ⟨by walk_at "size", fun r nr => k r _ (same_new5 nr) nr (by rw [tgts_branch, if_pos z']; exact upd_same)⟩
      · have z' : ¬ kk = m := fun e => z (by rw [e]; exact decide_eq_true rfl)
        refine ⟨_, rfl, _, _, _, _, rfl, rfl, g1, g2, _, rfl, _, _, _, _, rfl, rfl, f1, f2, ?_⟩
        exact ⟨by walk_at "size", fun r nr => k r _ (same_new5 nr) nr (by rw [tgts_branch, if_neg z']; exact upd_same)⟩
structure NodesOk (nodes es : List PyData) : Prop where
  len : nodes.length = es.length
  node : ∀ (i : Nat) (d e : PyData), nodes[i]? = some d → es[i]? = some e → (∃ is, d = .tuple [.tuple is, e]) ∧ IsEnd e
  few : nodes.length ≤ 400
theorem Flow.nodes {most waits many : Int} {ps ss nodes es : List PyData} (F : Flow most waits ps ss many nodes es) (h : most ≤ 99) : NodesOk nodes es := by
  refine ⟨F.len, fun i d e h1 h2 => ?_, by have := F.most; omega⟩
  obtain ⟨is, hd, _, _⟩ := F.node i d e h1 h2
  exact ⟨⟨is, hd⟩, _, _, F.ends.2.1 e (List.mem_of_getElem? h2)⟩
def sp_leads_to (K : PySem.W.Frag) : Sp := fun vs H Q _ => ∃ (v : V) (d1 d2 d3 : PyData) (nodes es : List PyData), vs = [v] ∧ Dp K H v (.tuple [d1, d2, d3, .tuple nodes]) ∧ NodesOk nodes es ∧
  ∀ R rs H', Same H H' → (∀ b ∈ R :: rs, H b = none) → Rows H' R rs (es.map tgts) → Q (.ref R) H'
theorem same_upd {H H' : Hp} {D : Addr} {o : HO} (s : Same H H') (n : H D = none) : Same H (L2.upd H' D o) := fun b u hb => by
  rw [upd_ne (fun e => by rw [e, n] at hb; cases hb)]
  exact s b u hb
theorem none_of {H H' : Hp} (s : Same H H') {t : Addr} (n : H' t = none) : H t = none := by
  cases e : H t with
  | none => rfl
  | some o => rw [s _ _ e] at n; cases n
theorem ok_leads_to (T : Tx w K mg) : FnOk P w K mg base CX0 2 T.a_leads_to T.d_leads_to ["graph"] (sp_leads_to K) := by
  refine T.F_leads_to.ok sc_leads_to (fun vs H Q E h => ?_) (fun cdv A outer s H vs Q E hr h => ?_)
  · obtain ⟨v, _, _, _, _, _, rfl, _⟩ := h
    rfl
  · obtain ⟨v, d1, d2, d3, nodes, es, rfl, dv, N, k⟩ := h
    refine ⟨_, (pss_one (ps_ret (pe_lc (own := [("_", 1), ("end", 2)]) (g := gTup K 2 (gCons (gName 1) (gCons (gName 2) gNil))) (tt := tYes) rfl sc_leads_to.nd (pi_tup (pe_ix ix_tup (pv 0) pe_int (fun _ _ => rfl))) (blkOk_by (N := ["graph", "_", "end"]) (sc := defScope s_leads_to) (by decide +kernel)) (fun _ _ _ _ _ => (pg_tup rfl (pgs_cons (pg_name (i := 1) sc_leads_to.nd rfl (.inl rfl)) (pgs_cons (pg_name (i := 2) sc_leads_to.nd rfl (.inl rfl)) pgs_nil)))) (fun _ _ _ _ _ => pts_nil) (fun _ _ _ _ _ => (pe_call (ok_targets T) (hr.mono (by decide)) (by rfl) T.g_targets T.F_targets.kp T.b_targets .nil pass0 (pa_cons (pv 2) pa_nil)))))), ?_⟩
    obtain ⟨a, xs, u0, rfl, h1, h2, h3⟩ := Dp.item dv (i := 3) rfl
    obtain ⟨b, ys, rfl, g1, g2⟩ := Dp.tupInv h3
    have yl := g2.len
    refine ⟨_, rfl, _, _, _, _, rfl, rfl, h1, h2, _, rfl, ⟨_, g1⟩, fun D nD => ?_⟩
    refine lc_tup (K := K) (a := b) (xs := ys) (fun i H' => ∃ rs, Same H H' ∧ (∀ b ∈ D :: rs, H b = none) ∧ Rows H' D rs ((es.take i).map tgts))
      ⟨[], same_new5 nD, (fun c hc => by rw [List.mem_singleton.mp hc]; exact nD), .nil upd_same⟩ (fun i H' _ ⟨rs, s4, _, _⟩ => Same.sqt s4 g1) ?_ ?_
    · rintro i x H4 hx ⟨rs, s4, hn, W⟩
      obtain ⟨d, hd, dx⟩ := DpAll.get (DpAll.same s4 g2) hx
      have hin : i < nodes.length := (List.getElem?_eq_some_iff.mp hd).1
      have hie : i < es.length := by rw [← N.len]; exact hin
      obtain ⟨⟨is, rfl⟩, he⟩ := N.node i d es[i] hd (List.getElem?_eq_getElem hie)
      obtain ⟨n1, xs1, rfl, p1, p2⟩ := Dp.tupInv dx
      cases p2 with
      | @cons w1 _ _ _ q1 p2 =>
      cases p2 with
      | @cons w2 _ _ _ q2 p2 =>
      cases p2
      refine ⟨_, _, rfl, p1, rfl, _, _, rfl, _, _, rfl, rfl, rfl, _, rfl, _, _, rfl, q2, he, fun r H5 s5 nr hr5 => ?_⟩
      have W5 := W.same s5
      have nr0 := none_of s4 nr
      have rD : r ≠ D := fun e => by rw [e, W.top] at nr; cases nr
      refine ⟨_, W5.top, small1000 (by rw [List.length_map, W.len, List.length_map, List.length_take]; have := N.few; omega), rs ++ [r], same_upd (s4.trans s5) nD, fun c hc => ?_, ?_⟩
      · rcases List.mem_cons.mp hc with hc | hc
        · rw [hc]; exact nD
        · rcases List.mem_append.mp hc with hc | hc
          · exact hn c (.tail _ hc)
          · rw [List.mem_singleton.mp hc]; exact nr0
      · have e1 : (es.take (i + 1)).map tgts = (es.take i).map tgts ++ [tgts es[i]] := by rw [List.take_succ, List.getElem?_eq_getElem hie, List.map_append]; rfl
        rw [e1]
        exact W.push' s5 nr hr5
    · rintro H4 ⟨rs, s4, hn, W⟩
      have e1 : (es.take ys.length).map tgts = es.map tgts := by rw [List.take_of_length_le (by rw [← N.len, yl]; exact Nat.le_refl _)]
      rw [e1] at W
      exact k D rs H4 s4 hn W
/-! ### where they come from -/
def cRow (xss : List (List Int)) (i j b : Nat) : List Int := ((List.range i).filter fun a => decide (((b : Nat) : Int) ∈ xss.getD a [])).map Int.ofNat ++ (if ((b : Nat) : Int) ∈ (xss.getD i []).take j then [Int.ofNat i] else [])
def cAt (xss : List (List Int)) (n i j : Nat) : List (List Int) := (List.range n).map (cRow xss i j)
def comes (xss : List (List Int)) : List (List Int) := (List.range xss.length).map fun b => ((List.range xss.length).filter fun a => decide (((b : Nat) : Int) ∈ xss.getD a [])).map Int.ofNat
theorem cAt_len (xss : List (List Int)) (n i j : Nat) : (cAt xss n i j).length = n := by unfold cAt; rw [List.length_map, List.length_range]
theorem cAt_at {xss : List (List Int)} {n i j b : Nat} (h : b < n) : (cAt xss n i j)[b]? = some (cRow xss i j b) := by
  unfold cAt
  rw [List.getElem?_map, List.getElem?_range h]
  rfl
theorem cAt_zero (xss : List (List Int)) (n : Nat) : cAt xss n 0 0 = List.replicate n [] := by
  refine List.ext_getElem? fun b => ?_
  by_cases h : b < n
  · rw [cAt_at h, List.getElem?_replicate, if_pos h]
    rfl
  · rw [List.getElem?_eq_none (by rw [cAt_len]; omega), List.getElem?_eq_none (by rw [List.length_replicate]; omega)]
theorem cAt_next (xss : List (List Int)) (n i : Nat) : cAt xss n i (xss.getD i []).length = cAt xss n (i + 1) 0 := by
  unfold cAt
  refine congrArg (fun f => (List.range n).map f) (funext fun b => ?_)
  unfold cRow
  rw [List.take_length, List.range_succ, List.filter_append, List.map_append, List.take_zero]
  have e : ¬ ((b : Nat) : Int) ∈ ([] : List Int) := by simp
  rw [if_neg e, List.append_nil]
  congr 1
  by_cases z : ((b : Nat) : Int) ∈ xss.getD i []
  · rw [if_pos z, List.filter_cons_of_pos (p := fun a => decide (((b : Nat) : Int) ∈ xss.getD a [])) (decide_eq_true z)]; rfl
  · rw [if_neg z, List.filter_cons_of_neg (p := fun a => decide (((b : Nat) : Int) ∈ xss.getD a [])) (by rw [decide_eq_false z]; exact Bool.false_ne_true)]; rfl
theorem cAt_last (xss : List (List Int)) : cAt xss xss.length xss.length 0 = comes xss := by
  unfold cAt comes cRow
  refine congrArg (fun f => (List.range xss.length).map f) (funext fun b => ?_)
  rw [List.take_zero, if_neg (by simp), List.append_nil]
theorem cAt_step {xss : List (List Int)} {n i j t : Nat} {xs : List Int} (hx : xss.getD i [] = xs) (ht : xs[j]? = some (t : Int)) (nd : xs.Nodup) (hn : t < n) : (cAt xss n i j).set t (cRow xss i j t ++ [Int.ofNat i]) = cAt xss n i (j + 1) := by
  have hj := (List.getElem?_eq_some_iff.mp ht).1
  have tk : xs.take (j + 1) = xs.take j ++ [(t : Int)] := by rw [List.take_succ, ht]; rfl
  have out : ¬ (t : Int) ∈ xs.take j := fun m => by
    obtain ⟨k, hk, e⟩ := List.getElem_of_mem m
    rw [List.length_take] at hk
    rw [List.getElem_take] at e
    have : k = j := (List.getElem?_inj (by omega : k < xs.length) nd).mp (by rw [ht, List.getElem?_eq_getElem (by omega), e])
    omega
  refine List.ext_getElem? fun b => ?_
  by_cases hb : b < n
  · rw [cAt_at hb]
    by_cases z : b = t
    · subst z
      rw [List.getElem?_set_self (by rw [cAt_len]; exact hb)]
      unfold cRow
      rw [hx, tk, if_neg out, if_pos (by simp), List.append_nil]
    · rw [List.getElem?_set_ne (fun e => z e.symm), cAt_at hb]
      unfold cRow
      rw [hx, tk]
      have e : ((b : Nat) : Int) ∈ xs.take j ++ [(t : Int)] ↔ ((b : Nat) : Int) ∈ xs.take j := by
        rw [List.mem_append]
        refine ⟨fun h => h.elim id fun h => ?_, .inl⟩
        have := List.mem_singleton.mp h
        omega
      simp only [e]
  · rw [List.getElem?_eq_none (by rw [List.length_set, cAt_len]; omega), List.getElem?_eq_none (by rw [cAt_len]; omega)]
theorem tgts_nodup {n many : Int} {e : PyData} (h : EndOk n many e) : (tgts e).Nodup ∧ (∀ t ∈ tgts e, 1 ≤ t ∧ t < n) ∧ (tgts e).length ≤ 2 := by
  cases h with
  | exit => exact ⟨List.nodup_nil, fun t h => (by cases h), Nat.zero_le _⟩
  | @jump k k1 k2 =>
    rw [tgts_jump]
    exact ⟨by simp, fun t h => by rw [List.mem_singleton.mp h]; exact ⟨k1, k2⟩, by simp⟩
  | @branch r k m hr k1 k2 m1 m2 =>
    rw [tgts_branch]
    by_cases z : k = m
    · rw [if_pos z]
      exact ⟨by simp, fun t h => by rw [List.mem_singleton.mp h]; exact ⟨k1, k2⟩, by simp⟩
    · rw [if_neg z]
      refine ⟨by simp [z], fun t h => ?_, by simp⟩
      rcases List.mem_cons.mp h with rfl | h
      · exact ⟨k1, k2⟩
      · rw [List.mem_singleton.mp h]; exact ⟨m1, m2⟩
/-- lists of targets as they should be -/
structure WaysOk (xss : List (List Int)) : Prop where
  nd : ∀ xs ∈ xss, xs.Nodup
  lt : ∀ xs ∈ xss, ∀ t ∈ xs, 0 ≤ t ∧ t < xss.length
  few : xss.length ≤ 400
  two : ∀ xs ∈ xss, xs.length ≤ 2
theorem Flow.ways {most waits many : Int} {ps ss nodes es : List PyData} (F : Flow most waits ps ss many nodes es) (h : most ≤ 99) : WaysOk (es.map tgts) := by
  have hl : (es.map tgts).length = nodes.length := by rw [List.length_map, F.len]
  refine ⟨fun xs m => ?_, fun xs m t ht => ?_, by rw [hl]; have := F.most; omega, fun xs m => ?_⟩
  all_goals obtain ⟨e, he, rfl⟩ := List.mem_map.mp m
  all_goals have q := tgts_nodup (F.ends.2.1 e he)
  · exact q.1
  · have := q.2.1 t ht
    rw [hl]
    omega
  · exact q.2.2
def sp_comes_from (K : PySem.W.Frag) : Sp := fun vs H Q _ => ∃ (v : V) (d1 d2 d3 : PyData) (nodes es : List PyData), vs = [v] ∧ Dp K H v (.tuple [d1, d2, d3, .tuple nodes]) ∧ NodesOk nodes es ∧ WaysOk (es.map tgts) ∧
  ∀ R rs H', Same H H' → (∀ b ∈ R :: rs, H b = none) → Rows H' R rs (comes (es.map tgts)) → Q (.ref R) H'
theorem ok_comes_from (T : Tx w K mg) : FnOk P w K mg base CX0 3 T.a_comes_from T.d_comes_from ["graph"] (sp_comes_from K) := by
  refine T.F_comes_from.ok sc_comes_from (fun vs H Q E h => ?_) (fun cdv A outer s H vs Q E hr h => ?_)
  · obtain ⟨v, _, _, _, _, _, rfl, _⟩ := h
    rfl
  · obtain ⟨v, d1, d2, d3, nodes, es, rfl, dv, N, WO, k⟩ := h
    refine ⟨_, (pss_cons (ps_setLc (i := 1) (own := [("_", 5)]) (g := gName 5) (tt := tYes) rfl sc_comes_from.nd rfl rfl (sw_true rfl rfl rfl (by decide +kernel)) (pi_tup (pe_ix ix_tup (pv 0) pe_int (fun _ _ => rfl))) (blkOk_by (N := ["graph", "found", "node", "ways", "target", "_"]) (sc := defScope s_comes_from) (by decide +kernel)) (fun _ _ _ _ _ => (pg_name (i := 5) sc_comes_from.nd rfl (.inl rfl))) (fun _ _ _ _ _ => pts_nil) (fun _ _ _ _ _ => (pe_lst pa_nil)))
      (pss_cons (ps_for PassesOwn.never rfl (pi_enum (by rfl) T.z_enumerate (pa_cons (pe_call (ok_leads_to T) (hr.mono (by decide)) (by rfl) T.g_leads_to T.F_leads_to.kp T.b_leads_to .nil pass0 (pa_cons (pv 0) pa_nil)) pa_nil)) (pg_tup rfl (pgs_cons (pg_name (i := 2) sc_comes_from.nd rfl (.inl rfl)) (pgs_cons (pg_name (i := 3) sc_comes_from.nd rfl (.inl rfl)) pgs_nil))) (pss_one (ps_for PassesOwn.never rfl (pi_list (pv 3)) (pg_name (i := 4) sc_comes_from.nd rfl (.inl rfl)) (pss_one (ps_expr (pe_bm PySem.F.plainAttrs_list PySem.F.slot_list_append PySem.F.type_list_append mt_append (pe_ix ix_list (pv 1) (pv 4) (fun _ _ => rfl)) (pa_cons (pv 2) pa_nil)))))))
      (pss_one (ps_ret (pv 1))))), ?_⟩
    obtain ⟨a, xs, u0, rfl, h1, h2, h3⟩ := Dp.item dv (i := 3) rfl
    obtain ⟨b, ys, rfl, g1, g2⟩ := Dp.tupInv h3
    have yl := g2.len
    have lX : (es.map tgts).length = nodes.length := by rw [List.length_map, N.len]
    generalize hX : es.map tgts = xss at WO lX k
    refine ⟨_, rfl, _, _, _, _, rfl, rfl, h1, h2, _, rfl, ⟨_, g1⟩, fun D nD => ?_⟩
    refine lc_tup (K := K) (a := b) (xs := ys) (fun i H' => ∃ rs, Same H H' ∧ (∀ b ∈ D :: rs, H b = none) ∧ Rows H' D rs (List.replicate i []))
      ⟨[], same_new5 nD, (fun c hc => by rw [List.mem_singleton.mp hc]; exact nD), .nil upd_same⟩ (fun i H' _ ⟨rs, s4, _, _⟩ => Same.sqt s4 g1) ?_ ?_
    · rintro i x H4 hx ⟨rs, s4, hn, W⟩
      have hil : i < ys.length := (List.getElem?_eq_some_iff.mp hx).1
      have hl : rs.length = i := by rw [W.len, List.length_replicate]
      refine ⟨rfl, Nat.zero_le _, fun t nt => ⟨rs.map V.ref, (same_new5 nt) _ _ W.top, small1000 (by rw [List.length_map]; have := N.few; omega), rs ++ [t], same_upd (s4.trans (same_new5 nt)) nD, fun c hc => ?_, ?_⟩⟩
      · rcases List.mem_cons.mp hc with hc | hc
        · rw [hc]; exact nD
        · rcases List.mem_append.mp hc with hc | hc
          · exact hn c (.tail _ hc)
          · rw [List.mem_singleton.mp hc]; exact none_of s4 nt
      · rw [List.replicate_succ']
        exact W.push (xs := []) nt
    · rintro H4 ⟨rs, s4, hn, W⟩
      refine ⟨_, rfl, _, d1, d2, d3, nodes, es, rfl, dv.same s4, N, fun LR lrs H5 s5 hn5 W5 => ?_⟩
      rw [hX] at W5
      have W4 := W.same s5
      have apart : ∀ b ∈ LR :: lrs, b ∉ D :: rs := fun b m m2 => by
        have z := hn5 b m
        rcases List.mem_cons.mp m2 with m2 | m2
        · rw [m2, W.top] at z; cases z
        · obtain ⟨k, hk, e⟩ := List.getElem_of_mem m2
          have hk2 : k < (List.replicate ys.length ([] : List Int)).length := by rw [← W.len]; exact hk
          have := W.row k b _ (by rw [List.getElem?_eq_getElem hk, e]) (List.getElem?_eq_getElem hk2)
          rw [z] at this
          cases this
      have lrl : (lrs.map V.ref).length = xss.length := by rw [List.length_map, W5.len]
      refine ⟨_, _, rfl, SqL.of W5.top, ?_⟩
      rw [yl, ← lX, ← cAt_zero xss xss.length] at W4
      refine for_it walk_enum (fun i σ H' => ∃ y2 y3 y4, σ = [some (.ref a), some (.ref D), y2, y3, y4, none] ∧ Same H H' ∧ Rows H' D rs (cAt xss xss.length i 0) ∧ Rows H' LR lrs xss)
        ⟨none, none, none, rfl, s4.trans s5, W4, W5⟩ (fun i σ H' _ ⟨_, _, _, _, _, _, w⟩ => SqL.of w.top) ?_ ?_
      · rintro i x σ H6 H7 hi ⟨y2, y3, y4, rfl, s6, W6, V6⟩ ⟨t, u, z, rfl, nt, rfl, hu, hz⟩
        cases hu
        have hix : i < xss.length := by omega
        have hlr : i < lrs.length := by rw [V6.len]; exact hix
        have hz' : (lrs.map V.ref)[i]? = some z := hz
        rw [List.getElem?_map, List.getElem?_eq_getElem hlr] at hz'
        cases hz'
        have rowi := V6.row i _ _ (List.getElem?_eq_getElem hlr) (List.getElem?_eq_getElem hix)
        have mi : lrs[i] ∈ LR :: lrs := .tail _ (List.getElem_mem hlr)
        have nX := WO.nd _ (List.getElem_mem hix)
        have lX2 := WO.lt _ (List.getElem_mem hix)
        have gX : xss.getD i [] = xss[i] := by rw [List.getD_eq_getElem?_getD, List.getElem?_eq_getElem hix]; rfl
        generalize xss[i] = xs at rowi nX lX2 gX
        have s7 : Same H6 (L2.upd H6 t (.tup [.int (i : Nat), .ref lrs[i]])) := same_new5 nt
        have W7 := W6.same s7
        have V7 := V6.same s7
        have row7 := s7 _ _ rowi
        refine ⟨_, _, rfl, SqT.of upd_same, rfl, _, _, rfl, _, _, rfl, rfl, ?_⟩
        generalize L2.upd H6 t (.tup [.int (i : Nat), .ref lrs[i]]) = H8 at s7 W7 V7 row7 ⊢
        refine ⟨_, rfl, _, rfl, ⟨_, SqL.of row7⟩, for_list (K := K) (a := lrs[i]) (xs := xs.map V.int) (fun j σ H' => ∃ y4, σ = [some (.ref a), some (.ref D), some (.int (i : Nat)), some (.ref lrs[i]), y4, none] ∧ Same H H' ∧ Rows H' D rs (cAt xss xss.length i j) ∧ Rows H' LR lrs xss ∧ H' lrs[i] = some (.lst (xs.map V.int)))
          ⟨y4, rfl, s6.trans s7, W7, V7, row7⟩ (fun j σ H' _ ⟨_, _, _, _, _, r⟩ => SqL.of r) ?_ ?_⟩
        · rintro j x σ H9 hx ⟨y4, rfl, s9, W9, V9, r9⟩
          rw [List.getElem?_map] at hx
          cases hxj : xs[j]? with
          | none => rw [hxj] at hx; cases hx
          | some ti =>
            rw [hxj] at hx
            cases hx
            have tb := lX2 ti (List.mem_of_getElem? hxj)
            obtain ⟨tn, rfl⟩ : ∃ n : Nat, ti = (n : Int) := ⟨ti.toNat, by omega⟩
            have htn : tn < xss.length := by omega
            have ca := cAt_at (xss := xss) (i := i) (j := j) htn
            obtain ⟨r, e1, e2, e3, e4⟩ := W9.at ca
            have mr : r ∈ D :: rs := .tail _ (List.mem_of_getElem? e1)
            have step := cAt_step gX hxj nX htn
            have rl : (cRow xss i j tn).length ≤ 500 := by
              unfold cRow
              rw [List.length_append, List.length_map]
              have q1 := List.length_filter_le (fun a => decide (((tn : Nat) : Int) ∈ xss.getD a [])) (List.range i)
              rw [List.length_range] at q1
              have q2 := WO.few
              split
              · rw [List.length_singleton]; omega
              · rw [List.length_nil]; omega
            refine ⟨_, rfl, _, rfl, _, _, _, _, rfl, rfl, e2, e3, .inl ⟨rfl, _, SqL.of e4⟩, _, rfl, _, _, _, rfl, rfl, e4, small1000 (by rw [List.length_map]; omega), ?_⟩
            refine ⟨_, rfl, same_upd s9 (hn r mr), ?_, V9.chg (fun m => apart r m mr), ?_⟩
            · have := W9.app (v := Int.ofNat i) e1 ca
              rw [step] at this
              exact this
            · rw [upd_ne (fun e => apart _ mi (by rw [e]; exact mr))]
              exact r9
        · rintro σ H9 ⟨y4, rfl, s9, W9, V9, r9⟩
          rw [List.length_map, ← gX, cAt_next] at W9
          exact ⟨_, _, _, rfl, s9, W9, V9⟩
      · rintro σ H6 ⟨y2, y3, y4, rfl, s6, W6, V6⟩
        rw [lrl, cAt_last] at W6
        exact ⟨_, rfl, k D rs H6 s6 hn W6⟩
def sp_law_leads (K : PySem.W.Frag) : Sp := fun vs H Q _ => ∃ (v : V) (nodes es : List PyData), vs = [v] ∧ Dp K H v (.tuple nodes) ∧ NodesOk nodes es ∧
  ∀ R rs H', Same H H' → (∀ b ∈ R :: rs, H b = none) → Rows H' R rs (es.map tgts) → Q (.ref R) H'
theorem ok_law_leads (T : Tx w K mg) : FnOk P w K mg base CX0 1 T.a_law_leads T.d_law_leads ["nodes"] (sp_law_leads K) := by
  refine T.F_law_leads.ok sc_law_leads (fun vs H Q E h => ?_) (fun cdv A outer s H vs Q E hr h => ?_)
  · obtain ⟨v, _, _, rfl, _⟩ := h
    rfl
  · obtain ⟨v, nodes, es, rfl, dv, N, k⟩ := h
    refine ⟨_, (pss_cons (ps_set (i := 1) sc_law_leads.nd rfl (.inl rfl) (pe_lst pa_nil))
      (pss_cons (ps_for PassesOwn.never rfl (pi_tup (pv 0)) (pg_name (i := 2) sc_law_leads.nd rfl (.inl rfl)) (pss_cons (ps_set (i := 3) sc_law_leads.nd rfl (.inl rfl) (pe_ix ix_tup (pv 2) pe_int (fun _ _ => rfl)))
      (pss_one (ps_if (pt_cmpR op_eq (pe_ix ix_tup (pv 3) pe_int (fun _ _ => rfl)) pe_str (nomark _)) (pss_one (ps_expr (pe_bm PySem.F.plainAttrs_list PySem.F.slot_list_append PySem.F.type_list_append mt_append (pv 1) (pa_cons (pe_lst (pa_cons (pe_ix ix_tup (pv 3) pe_int (fun _ _ => rfl)) pa_nil)) pa_nil)))) (pss_one (ps_if (pt_cmpR op_eq (pe_ix ix_tup (pv 3) pe_int (fun _ _ => rfl)) pe_str (nomark _)) (pss_one (ps_expr (pe_bm PySem.F.plainAttrs_list PySem.F.slot_list_append PySem.F.type_list_append mt_append (pv 1) (pa_cons (pe_op op_cat (pe_lst (pa_cons (pe_ix ix_tup (pv 3) pe_int (fun _ _ => rfl)) pa_nil)) (pe_op op_rep (pe_lst (pa_cons (pe_ix ix_tup (pv 3) pe_int (fun _ _ => rfl)) pa_nil)) (pe_callTy call_int1 (by rfl) T.z_int (by decide +kernel) (pa_cons (pe_cmpR op_ne (pe_ix ix_tup (pv 3) pe_int (fun _ _ => rfl)) (pe_ix ix_tup (pv 3) pe_int (fun _ _ => rfl)) (nomark _)) pa_nil)))) pa_nil)))) (pss_one (ps_expr (pe_bm PySem.F.plainAttrs_list PySem.F.slot_list_append PySem.F.type_list_append mt_append (pv 1) (pa_cons (pe_lst pa_nil) pa_nil))))))))))
      (pss_one (ps_ret (pv 1))))), ?_⟩
    obtain ⟨b, ys, rfl, g1, g2⟩ := Dp.tupInv dv
    have yl := g2.len
    refine ⟨Nat.zero_le _, fun D nD => ?_⟩
    refine ⟨_, rfl, b, rfl, ⟨_, Same.sqt (same_new5 nD) g1⟩, for_tup (K := K) (a := b) (xs := ys) (fun i σ H' => ∃ y2 y3 rs, σ = [some (.ref b), some (.ref D), y2, y3] ∧ Same H H' ∧ (∀ b ∈ D :: rs, H b = none) ∧ Rows H' D rs ((es.take i).map tgts))
      ⟨none, none, [], rfl, same_new5 nD, (fun c hc => by rw [List.mem_singleton.mp hc]; exact nD), .nil upd_same⟩ (fun i σ H' _ ⟨_, _, _, _, s4, _⟩ => Same.sqt s4 g1) ?_ ?_⟩
    · rintro i x σ H4 hx ⟨y2, y3, rs, rfl, s4, hn, W⟩
      obtain ⟨d, hd, dx⟩ := DpAll.get (DpAll.same s4 g2) hx
      have hin : i < nodes.length := (List.getElem?_eq_some_iff.mp hd).1
      have hie : i < es.length := by rw [← N.len]; exact hin
      obtain ⟨⟨is, rfl⟩, he⟩ := N.node i d es[i] hd (List.getElem?_eq_getElem hie)
      have e1 : (es.take (i + 1)).map tgts = (es.take i).map tgts ++ [tgts es[i]] := by rw [List.take_succ, List.getElem?_eq_getElem hie, List.map_append]; rfl
      obtain ⟨n1, xs1, u1, rfl, p1, p2, p3⟩ := Dp.item dx (i := 1) rfl
      refine ⟨_, rfl, _, _, _, _, rfl, rfl, p1, p2, ?_⟩
      -- the end of each way: a row is put behind the others
      have fin : ∀ (r : Addr) (H5 : Hp), Same H4 H5 → H4 r = none → H5 r = some (.lst ((tgts es[i]).map V.int)) → (rs.map V.ref).length < sizeLine ∧ H5 D = some (.lst (rs.map V.ref)) ∧ Same H (L2.upd H5 D (.lst (rs.map V.ref ++ [.ref r]))) ∧
          (∀ b ∈ D :: (rs ++ [r]), H b = none) ∧ Rows (L2.upd H5 D (.lst (rs.map V.ref ++ [.ref r]))) D (rs ++ [r]) ((es.take (i + 1)).map tgts) := fun r H5 s5 nr hr5 => by
        refine ⟨small1000 (by rw [List.length_map, W.len, List.length_map, List.length_take]; have := N.few; omega), s5 _ _ W.top, same_upd (s4.trans s5) nD, fun c hc => ?_, ?_⟩
        · rcases List.mem_cons.mp hc with hc | hc
          · rw [hc]; exact nD
          · rcases List.mem_append.mp hc with hc | hc
            · exact hn c (.tail _ hc)
            · rw [List.mem_singleton.mp hc]; exact none_of s4 nr
        · rw [e1]
          exact W.push' s5 nr hr5
      have top : ∀ {H5 : Hp}, Same H4 H5 → H5 D = some (.lst (rs.map V.ref)) := fun s5 => s5 _ _ W.top
      generalize es[i] = e at he p3 fin
      obtain ⟨cc, mm, he⟩ := he
      cases he with
      | exit =>
        obtain ⟨a, xs, u0, rfl, h1, h2, h3⟩ := Dp.item p3 (i := 0) rfl
        cases Dp.strInv h3
        refine ⟨_, rfl, _, _, _, _, rfl, rfl, h1, h2, rfl, _, rfl, ite2 (fun z => absurd z (by decide +kernel)) (fun _ => ?_)⟩
        refine ⟨_, rfl, _, _, _, _, rfl, rfl, h1, h2, rfl, _, rfl, ite2 (fun z => absurd z (by decide +kernel)) (fun _ => ?_)⟩
        refine ⟨_, rfl, .inl ⟨rfl, _, SqL.of W.top⟩, Nat.zero_le _, fun r nr => ?_⟩
        obtain ⟨f1, f2, f3, f4, f5⟩ := fin r _ (same_new5 (o := .lst []) nr) nr upd_same
        exact ⟨_, _, _, rfl, rfl, f2, f1, _, _, _, rfl, f3, f4, f5⟩
      | @jump kk k1 k2 =>
        obtain ⟨a, xs, u0, rfl, h1, h2, h3⟩ := Dp.item p3 (i := 0) rfl
        cases Dp.strInv h3
        obtain ⟨a', xs', u1, e1, g1, g2, g3⟩ := Dp.item p3 (i := 1) rfl
        cases e1
        cases Dp.intInv g3
        refine ⟨_, rfl, _, _, _, _, rfl, rfl, h1, h2, rfl, _, rfl, ite2 (fun _ => ?_) (fun z => absurd rfl z)⟩
        refine ⟨_, rfl, .inl ⟨rfl, _, SqL.of W.top⟩, _, rfl, _, _, _, _, rfl, rfl, g1, g2, by walk_at "size", fun r nr => ?_⟩
        obtain ⟨f1, f2, f3, f4, f5⟩ := fin r _ (same_new5 (o := .lst [.int kk]) nr) nr (by rw [tgts_jump]; exact upd_same)
        exact ⟨_, _, _, rfl, rfl, f2, f1, _, _, _, rfl, f3, f4, f5⟩
      | @branch r0 kk m hr0 k1 k2 m1 m2 =>
        obtain ⟨a, xs, u0, rfl, h1, h2, h3⟩ := Dp.item p3 (i := 0) rfl
        cases Dp.strInv h3
        refine ⟨_, rfl, _, _, _, _, rfl, rfl, h1, h2, rfl, _, rfl, ite2 (fun z => absurd z (by decide +kernel)) (fun _ => ?_)⟩
        refine ⟨_, rfl, _, _, _, _, rfl, rfl, h1, h2, rfl, _, rfl, ite2 (fun _ => ?_) (fun z => absurd rfl z)⟩
        obtain ⟨a', xs', u1, e1, g1, g2, g3⟩ := Dp.item p3 (i := 2) rfl
        cases e1
        cases Dp.intInv g3
        refine ⟨_, rfl, .inl ⟨rfl, _, SqL.of W.top⟩, _, rfl, _, _, _, _, rfl, rfl, g1, g2, by walk_at "size", fun l1 n1 => ?_⟩
        have t1 := same_new5 (o := .lst [.int kk]) n1
        have v1 : L2.upd H4 l1 (.lst [.int kk]) l1 = some (.lst [.int kk]) := upd_same
        have p4 := p3.same t1
        generalize L2.upd H4 l1 (.lst [.int kk]) = H5 at t1 v1 p4 ⊢
        obtain ⟨a', xs'', u1, e1, q1, q2, q3⟩ := Dp.item p4 (i := 3) rfl
        cases e1
        cases Dp.intInv q3
        refine ⟨_, rfl, _, _, _, _, rfl, rfl, q1, q2, by walk_at "size", fun l2 n2 => ?_⟩
        have t2 := same_new5 (o := .lst [.int m]) n2
        have v2 : L2.upd H5 l2 (.lst [.int m]) l2 = some (.lst [.int m]) := upd_same
        have p5 := p4.same t2
        generalize L2.upd H5 l2 (.lst [.int m]) = H6 at t2 v2 p5 ⊢
        obtain ⟨a', xs3, u1, e1, r1, r2, r3⟩ := Dp.item p5 (i := 2) rfl
        cases e1
        cases Dp.intInv r3
        obtain ⟨a', xs4, u1, e1, w1, w2, w3⟩ := Dp.item p5 (i := 3) rfl
        cases e1
        cases Dp.intInv w3
        refine ⟨_, rfl, _, _, _, _, rfl, rfl, r1, r2, _, rfl, _, _, _, _, rfl, rfl, w1, w2, rfl, .inr ⟨_, rfl, ?_⟩⟩
        have fl : ∀ x : Int, (if (!decide (V.int kk = V.int m)) = true then (1 : Int) else 0) = x → x = 0 ∨ x = 1 := fun x e => by split at e <;> omega
        have val : (List.replicate (if (!decide (V.int kk = V.int m)) = true then (1 : Int) else 0).toNat [V.int m]).flatten = if kk = m then [] else [V.int m] := by
          by_cases z : kk = m
          · rw [if_pos z, z, decide_eq_true rfl]; rfl
          · rw [if_neg z, decide_eq_false (fun e => z (by cases e; rfl))]; rfl
        generalize (if (!decide (V.int kk = V.int m)) = true then (1 : Int) else 0) = kx at fl val ⊢
        have k01 := fl kx rfl
        refine ⟨l2, kx, _, rfl, rfl, v2, by omega, by omega, Nat.le_of_lt (small1000 (by rw [List.length_singleton]; omega)), fun l3 n3 => ?_⟩
        rw [val]
        have t3 := same_new5 (o := .lst (if kk = m then [] else [V.int m])) n3
        refine ⟨l1, l3, _, _, rfl, rfl, t3 _ _ (t2 _ _ v1), upd_same, Nat.le_of_lt (small1000 (by split <;> simp)), fun l4 n4 => ?_⟩
        have s4 := ((t1.trans t2).trans t3).trans (same_new5 (o := .lst ([V.int kk] ++ (if kk = m then [] else [V.int m]))) n4)
        have n4' := none_of ((t1.trans t2).trans t3) n4
        obtain ⟨f1, f2, f3, f4, f5⟩ := fin l4 _ s4 n4' (by
          rw [tgts_branch, upd_same]
          by_cases z : kk = m
          · rw [if_pos z, if_pos z]; rfl
          · rw [if_neg z, if_neg z]; rfl)
        exact ⟨_, _, _, rfl, rfl, f2, f1, _, _, _, rfl, f3, f4, f5⟩
    · rintro σ H4 ⟨y2, y3, rs, rfl, s4, hn, W⟩
      have e1 : (es.take ys.length).map tgts = es.map tgts := by rw [List.take_of_length_le (by rw [← N.len, yl]; exact Nat.le_refl _)]
      rw [e1] at W
      exact ⟨_, rfl, k D rs H4 s4 hn W⟩
theorem inV_ints (t : Int) : ∀ xs : List Int, inV (.int t) (xs.map V.int) = decide (t ∈ xs)
  | [] => by simp [inV]
  | x :: r => by
    have a := inV_ints t r
    unfold inV at a ⊢
    rw [List.map_cons, List.any_cons, a]
    have e : eqV (.int x) (.int t) = decide (x = t) := by
      show (x == t) = _
      by_cases z : x = t
      · rw [z, decide_eq_true rfl, beq_self_eq_true]
      · rw [decide_eq_false z, beq_eq_false_iff_ne.mpr z]
    rw [e]
    by_cases z : x = t
    · rw [decide_eq_true z, Bool.true_or, decide_eq_true (by rw [z]; exact .head _)]
    · rw [decide_eq_false z, Bool.false_or]
      by_cases y : t ∈ r
      · rw [decide_eq_true y, decide_eq_true (.tail _ y)]
      · rw [decide_eq_false y, decide_eq_false (fun m => (List.mem_cons.mp m).elim (fun e => z e.symm) y)]
theorem flat_ints (xs : List Int) : (xs.map V.int).all flatV = true := by
  induction xs with
  | nil => rfl
  | cons x r ih => rw [List.map_cons, List.all_cons, ih]; rfl
def rowsD (zs : List (List Int)) : PyData := .list (zs.map fun xs => .list (xs.map PyData.int))
mutual
theorem Dp.fresh {K : PySem.W.Frag} {H : Hp} : ∀ {v : V} {d : PyData}, Dp K H v d → Dt (fun b => H b = none) K H v d
  | _, _, .non => .non
  | _, _, .bl b => .bl b
  | _, _, .int i => .int i
  | _, _, .str x => .str x
  | _, _, .lst (.inl h) r => .lst (.inl ⟨h.some, h⟩) (DpAll.fresh r)
  | _, _, .lst (.inr h) r => .lst (.inr h) (DpAll.fresh r)
  | _, _, .tup (.inl h) r => .tup (.inl ⟨h.some, h⟩) (DpAll.fresh r)
  | _, _, .tup (.inr h) r => .tup (.inr h) (DpAll.fresh r)
theorem DpAll.fresh {K : PySem.W.Frag} {H : Hp} : ∀ {vs : List V} {ds : List PyData}, DpAll K H vs ds → DtAll (fun b => H b = none) K H vs ds
  | _, _, .nil => .nil
  | _, _, .cons h r => .cons (Dp.fresh h) (DpAll.fresh r)
end
/-- what is read stays where only new things change -/
theorem Dp.stay {K : PySem.W.Frag} {H H' : Hp} {v : V} {d : PyData} (h : Dp K H v d) (o : ∀ b u, H b = some u → H' b = some u) : Dp K H' v d := h.same o
theorem Rows.dp {K : PySem.W.Frag} {H : Hp} {R : Addr} {rs : List Addr} {xss : List (List Int)} (W : Rows H R rs xss) : Dp K H (.ref R) (rowsD xss) := (W.data (M := fun _ => False) fun _ _ h => h).dp
theorem shows_two {d e : PyData} (a : Shows d) (b : Shows e) (ha : d.shown.length ≤ 100000) (hb : e.shown.length ≤ 100000) (da : d.depth ≤ 5) (db : e.depth ≤ 5) : Shows (.list [d, e]) := by
  refine ⟨?_, ?_, ?_, ?_⟩
  · simp only [PyData.showable, PyData.showableAll, a.able, b.able, Bool.and_self]
  · simp only [PyData.hasDict, PyData.hasDictAll, a.dict, b.dict, Bool.or_self]
  · simp only [PyData.depth, PyData.depthAll]; omega
  · have q := listText_le (PyData.shownAll [d, e])
    simp only [PyData.shownAll, List.map_cons, List.map_nil, List.sum_cons, List.sum_nil] at q
    simp only [PyData.shown, PyData.shownAll]
    exact Nat.le_trans q (Nat.le_trans (by omega : _ ≤ 300000) (by rw [sizeLine_eq]; decide))
/-! ### dominators: trees of candidates -/
namespace Dm
/-- a graph: edges, the root, an order of its nodes -/
structure Gr where
  n : Nat
  E : Nat → Nat → Prop
  r : Nat
  pl : Nat → Nat
  V : Nat → Prop
  Vn : ∀ {v}, V v → v < n
  inj : ∀ {u v}, V u → V v → pl u = pl v → u = v
  rn : V r
  En : ∀ {u v}, E u v → V u ∧ V v
  r0 : ∀ {v}, V v → v ≠ r → pl r < pl v
section
variable (G : Gr)
/-- one is above another one, or it itself -/
inductive Anc (f : Nat → Option Nat) : Nat → Nat → Prop
  | self (v : Nat) : Anc f v v
  | up {v u d : Nat} : f v = some u → Anc f u d → Anc f v d
/-- a way whose nodes behind the first one are so -/
inductive Way (P : Nat → Prop) : Nat → Nat → Prop
  | nil (a : Nat) : Way P a a
  | snoc {a b c : Nat} : Way P a b → G.E b c → P c → Way P a c
def Avoid (d v : Nat) : Prop := G.r ≠ d ∧ Way G (· ≠ d) G.r v
/-- the same, with the number of its edges that lead back in the order -/
inductive Av (d : Nat) : Nat → Nat → Prop
  | root : G.r ≠ d → Av d 0 G.r
  | adv {k u v : Nat} : Av d k u → G.E u v → v ≠ d → G.pl u < G.pl v → Av d k v
  | ret {k u v : Nat} : Av d k u → G.E u v → v ≠ d → ¬ G.pl u < G.pl v → Av d (k + 1) v
variable {G} {f : Nat → Option Nat}
theorem Anc.trans {a b c : Nat} (h : Anc f a b) (g : Anc f b c) : Anc f a c := by
  induction h with
  | self => exact g
  | up e _ ih => exact .up e (ih g)
theorem Way.trans {P : Nat → Prop} {a b c : Nat} (h : Way G P a b) (g : Way G P b c) : Way G P a c := by
  induction g with
  | nil => exact h
  | snoc _ e p ih => exact .snoc ih e p
theorem Way.mono {P Q : Nat → Prop} {a b : Nat} (h : Way G P a b) (pq : ∀ v, P v → Q v) : Way G Q a b := by
  induction h with
  | nil => exact .nil _
  | snoc _ e p ih => exact .snoc ih e (pq _ p)
theorem Avoid.av {d v : Nat} (h : Avoid G d v) : ∃ k, Av G d k v := by
  obtain ⟨h0, h⟩ := h
  induction h with
  | nil => exact ⟨0, .root h0⟩
  | @snoc b c _ e p ih =>
    obtain ⟨k, hk⟩ := ih
    by_cases z : G.pl b < G.pl c
    · exact ⟨k, .adv hk e p z⟩
    · exact ⟨k + 1, .ret hk e p z⟩
theorem Av.avoid {d k v : Nat} (h : Av G d k v) : Avoid G d v := by
  induction h with
  | root h => exact ⟨h, .nil _⟩
  | adv _ e p _ ih => exact ⟨ih.1, .snoc ih.2 e p⟩
  | ret _ e p _ ih => exact ⟨ih.1, .snoc ih.2 e p⟩
theorem Av.ne {d k v : Nat} (h : Av G d k v) : v ≠ d := by
  cases h with
  | root h => exact h
  | adv _ _ p _ => exact p
  | ret _ _ p _ => exact p
theorem Av.split {d k m : Nat} (x : Nat) (h : Av G d k m) : Av G x k m ∨ ∃ j, j ≤ k ∧ Av G d j x := by
  induction h with
  | root h =>
    by_cases z : G.r = x
    · exact .inr ⟨0, Nat.le_refl _, z ▸ .root h⟩
    · exact .inl (.root z)
  | @adv k u v hu e p q ih =>
    by_cases z : v = x
    · exact .inr ⟨k, Nat.le_refl _, z ▸ .adv hu e p q⟩
    · exact ih.elim (fun a => .inl (.adv a e z q)) .inr
  | @ret k u v hu e p q ih =>
    by_cases z : v = x
    · exact .inr ⟨k + 1, Nat.le_refl _, z ▸ .ret hu e p q⟩
    · exact ih.elim (fun a => .inl (.ret a e z q)) fun ⟨j, hj, a⟩ => .inr ⟨j, Nat.le_succ_of_le hj, a⟩
/-- enough rounds for all ways -/
theorem enough (G : Gr) : ∃ K, ∀ d v, G.V d → G.V v → Avoid G d v → ∃ k, k ≤ K ∧ Av G d k v := by
  have one : ∀ (P : Nat → Nat → Prop) (m : Nat), ∃ K, ∀ v, v < m → (∃ k, P v k) → ∃ k, k ≤ K ∧ P v k := by
    intro P m
    induction m with
    | zero => exact ⟨0, fun v h => absurd h (Nat.not_lt_zero _)⟩
    | succ m ih =>
      obtain ⟨K, hK⟩ := ih
      by_cases h : ∃ k, P m k
      · obtain ⟨k, hk⟩ := h
        refine ⟨max K k, fun v hv e => ?_⟩
        by_cases z : v = m
        · subst z; exact ⟨k, Nat.le_max_right _ _, hk⟩
        · obtain ⟨j, hj, pj⟩ := hK v (by omega) e
          exact ⟨j, Nat.le_trans hj (Nat.le_max_left _ _), pj⟩
      · refine ⟨K, fun v hv e => ?_⟩
        by_cases z : v = m
        · subst z; exact absurd e h
        · exact hK v (by omega) e
  have two : ∀ m, ∃ K, ∀ d, d < m → ∀ v, v < G.n → (∃ k, Av G d k v) → ∃ k, k ≤ K ∧ Av G d k v := by
    intro m
    induction m with
    | zero => exact ⟨0, fun d h => absurd h (Nat.not_lt_zero _)⟩
    | succ m ih =>
      obtain ⟨K, hK⟩ := ih
      obtain ⟨L, hL⟩ := one (fun v k => Av G m k v) G.n
      refine ⟨max K L, fun d hd v hv e => ?_⟩
      by_cases z : d = m
      · subst z
        obtain ⟨k, hk, a⟩ := hL v hv e
        exact ⟨k, Nat.le_trans hk (Nat.le_max_right _ _), a⟩
      · obtain ⟨k, hk, a⟩ := hK d (by omega) v hv e
        exact ⟨k, Nat.le_trans hk (Nat.le_max_left _ _), a⟩
  obtain ⟨K, hK⟩ := two G.n
  exact ⟨K, fun d v hd hv a => hK d (G.Vn hd) v (G.Vn hv) a.av⟩
variable (G)
/-- the candidates make a tree -/
structure Tr (f : Nat → Option Nat) : Prop where
  root : f G.r = some G.r
  dec : ∀ {v u}, f v = some u → v ≠ G.r → G.pl u < G.pl v
  tot : ∀ {v u}, f v = some u → G.V v ∧ G.V u ∧ f u ≠ none
/-- and are between the dominators and what the ways so far tell; c: how often a node was looked at -/
structure Inv (f : Nat → Option Nat) (c : Nat → Nat) : Prop where
  tr : Tr G f
  way : ∀ {v u}, f v = some u → v ≠ G.r → Way G (fun x => G.pl u < G.pl x) u v
  dom : ∀ {v}, f v ≠ none → ∀ d, G.V d → ¬ Avoid G d v → Anc f v d
  seen : ∀ v d k, Anc f v d → k < c v → ¬ Av G d k v
  full : ∀ v, G.V v → 0 < c v → f v ≠ none
/-- b is the nearest one above all that lead to n and were looked at -/
structure Near (f : Nat → Option Nat) (n b : Nat) : Prop where
  some : ∃ p, G.E p n ∧ f p ≠ none ∧ G.pl p < G.pl n
  above : ∀ p, G.E p n → f p ≠ none → Anc f p b
  least : ∀ d, (∀ p, G.E p n → f p ≠ none → Anc f p d) → Anc f b d
variable {G}
theorem Tr.root_only (T : Tr G f) {d : Nat} (h : Anc f G.r d) : d = G.r := by
  have : ∀ v e, Anc f v e → v = G.r → e = G.r := by
    intro v e h
    induction h with
    | self => exact id
    | up eu _ ih =>
      intro z
      subst z
      rw [T.root] at eu
      cases eu
      exact ih rfl
  exact this _ _ h rfl
theorem Tr.le (T : Tr G f) {v d : Nat} (h : Anc f v d) : G.pl d ≤ G.pl v := by
  induction h with
  | self => exact Nat.le_refl _
  | @up v u d e _ ih =>
    by_cases z : v = G.r
    · subst z
      rw [T.root] at e
      cases e
      exact ih
    · exact Nat.le_of_lt (Nat.lt_of_le_of_lt ih (T.dec e z))
theorem Tr.good (T : Tr G f) {v d : Nat} (h : Anc f v d) (hv : f v ≠ none) : f d ≠ none := by
  induction h with
  | self => exact hv
  | up e _ ih => exact ih (T.tot e).2.2
theorem Tr.lt (T : Tr G f) {v d : Nat} (h : Anc f v d) (hv : G.V v) : G.V d := by
  induction h with
  | self => exact hv
  | up e _ ih => exact ih (T.tot e).2.1
/-- two above one: one of them is above the other one -/
theorem Tr.total (T : Tr G f) {v d e : Nat} (h : Anc f v d) (g : Anc f v e) (le : G.pl d ≤ G.pl e) (hv : G.V v) : Anc f e d := by
  induction h with
  | self v =>
    have := T.le g
    have z : v = e := G.inj hv (T.lt g hv) (by omega)
    rw [← z]
    exact .self _
  | @up v u d eu hd ih =>
    cases g with
    | self => exact .up eu hd
    | up eu' g =>
      rw [eu] at eu'
      cases eu'
      exact ih g le (T.tot eu).2.1
theorem Tr.up_of (T : Tr G f) {v d u : Nat} (h : Anc f v d) (ne : v ≠ d) (e : f v = some u) : Anc f u d := by
  cases h with
  | self => exact absurd rfl ne
  | up e' h => rw [e] at e'; cases e'; exact h
theorem Inv.wayAnc {c : Nat → Nat} (I : Inv G f c) {v d : Nat} (h : Anc f v d) : Way G (fun x => G.pl d < G.pl x) d v := by
  induction h with
  | self => exact .nil _
  | @up v u d e h ih =>
    by_cases z : v = G.r
    · subst z
      have e' := e
      rw [I.tr.root] at e'
      cases e'
      exact ih
    · exact ih.trans ((I.way e z).mono fun x hx => Nat.lt_of_le_of_lt (I.tr.le h) hx)
def set (f : Nat → Option Nat) (n b : Nat) : Nat → Option Nat := fun v => if v = n then some b else f v
theorem set_at (f : Nat → Option Nat) (n b : Nat) : set f n b n = some b := if_pos rfl
theorem set_ne {f : Nat → Option Nat} {n b v : Nat} (h : v ≠ n) : set f n b v = f v := if_neg h
section
variable {n b : Nat}
/-- below n's place nothing has changed -/
theorem anc_low (T : Tr G f) {v d : Nat} (lt : G.pl v < G.pl n) : Anc (set f n b) v d ↔ Anc f v d := by
  constructor
  · intro h
    induction h with
    | self => exact .self _
    | @up v u d e _ ih =>
      have ne : v ≠ n := fun z => by rw [z] at lt; exact Nat.lt_irrefl _ lt
      rw [set_ne ne] at e
      refine .up e (ih ?_)
      by_cases z : v = G.r
      · subst z; rw [T.root] at e; cases e; exact lt
      · exact Nat.lt_trans (T.dec e z) lt
  · intro h
    induction h with
    | self => exact .self _
    | @up v u d e _ ih =>
      have ne : v ≠ n := fun z => by rw [z] at lt; exact Nat.lt_irrefl _ lt
      refine .up (by rw [set_ne ne]; exact e) (ih ?_)
      by_cases z : v = G.r
      · subst z; rw [T.root] at e; cases e; exact lt
      · exact Nat.lt_trans (T.dec e z) lt
theorem anc_old (T : Tr G f) (lb : G.pl b < G.pl n) {v d : Nat} (h : Anc (set f n b) v d) : Anc f v d ∨ (Anc f v n ∧ Anc f b d) := by
  induction h with
  | self => exact .inl (.self _)
  | @up v u d e h ih =>
    by_cases z : v = n
    · subst z
      rw [set_at] at e
      cases e
      exact .inr ⟨.self _, (anc_low T lb).mp h⟩
    · rw [set_ne z] at e
      exact ih.elim (fun a => .inl (.up e a)) fun ⟨a, a'⟩ => .inr ⟨.up e a, a'⟩
theorem anc_new (T : Tr G f) (lb : G.pl b < G.pl n) {v d : Nat} (h : Anc f v n) (g : Anc f b d) : Anc (set f n b) v d := by
  have g' := (anc_low (n := n) (b := b) T lb).mpr g
  have : ∀ v m, Anc f v m → m = n → Anc (set f n b) v d := by
    intro v m h
    induction h with
    | self v => intro z; exact .up (by rw [z]; exact set_at _ _ _) g'
    | @up v u m e h ih =>
      intro y
      by_cases z : v = n
      · rw [z]
        exact .up (set_at _ _ _) g'
      · exact .up (by rw [set_ne z]; exact e) (ih y)
  exact this _ _ h rfl
theorem anc_free {v d : Nat} (h : Anc f v d) (g : ¬ Anc f v n) : Anc (set f n b) v d := by
  induction h with
  | self => exact .self _
  | @up v u d e h ih =>
    have ne : v ≠ n := fun z => g (z ▸ .self _)
    exact .up (by rw [set_ne ne]; exact e) (ih fun a => g (.up e a))
theorem anc_high (T : Tr G f) {v d : Nat} (h : Anc f v d) (le : G.pl n ≤ G.pl d) (hd : Anc f d n) : Anc (set f n b) v d := by
  induction h with
  | self => exact .self _
  | @up v u d e h ih =>
    by_cases z : v = n
    · subst z
      by_cases y : v = d
      · rw [y]; exact .self _
      · by_cases x : v = G.r
        · subst x
          rw [T.root] at e
          cases e
          exact absurd (T.root_only h).symm y
        · exact absurd (Nat.lt_of_le_of_lt (T.le h) (T.dec e x)) (Nat.not_lt.mpr le)
    · exact .up (by rw [set_ne z]; exact e) (ih le hd)
end
theorem Near.lt {n b : Nat} (T : Tr G f) (N : Near G f n b) : G.pl b < G.pl n := by
  obtain ⟨p, e, hp, lp⟩ := N.some
  exact Nat.lt_of_le_of_lt (T.le (N.above p e hp)) lp
/-- one node gets what is nearest above all that lead to it -/
theorem Inv.upd {c : Nat → Nat} (I : Inv G f c) {n b k : Nat} (hn : G.V n) (nr : n ≠ G.r) (N : Near G f n b) (ck : ∀ v, c v ≤ k) (cf : ∀ u, G.E u n → G.pl u < G.pl n → k ≤ c u) (cb : ∀ u, G.E u n → k ≤ c u + 1) :
    Inv G (set f n b) (fun v => if v = n then k else c v) := by
  have T := I.tr
  have lb := N.lt T
  obtain ⟨p, ep, hp, lp⟩ := N.some
  have hpb := N.above p ep hp
  have fb : f b ≠ none := T.good hpb hp
  have bn : G.V b := T.lt hpb (G.En ep).1
  have ne_some : ∀ v, f v ≠ none → set f n b v ≠ none := fun v h => by
    by_cases z : v = n
    · rw [z, set_at]; intro y; cases y
    · rw [set_ne z]; exact h
  have T' : Tr G (set f n b) := by
    refine ⟨by rw [set_ne nr.symm]; exact T.root, fun {v u} e vr => ?_, fun {v u} e => ?_⟩
    · by_cases z : v = n
      · rw [z, set_at] at e
        cases e
        rw [z]
        exact lb
      · rw [set_ne z] at e
        exact T.dec e vr
    · by_cases z : v = n
      · rw [z, set_at] at e
        cases e
        exact ⟨by rw [z]; exact hn, bn, ne_some _ fb⟩
      · rw [set_ne z] at e
        exact ⟨(T.tot e).1, (T.tot e).2.1, ne_some _ (T.tot e).2.2⟩
  -- n itself
  have seenN : ∀ d j, Anc (set f n b) n d → j < k → ¬ Av G d j n := by
    intro d j h hj a
    rcases anc_old T lb h with h | ⟨_, h⟩
    · by_cases z : d = n
      · exact a.ne z.symm
      · -- d is above n in the new tree, so above b
        have : Anc (set f n b) b d := by
          cases ‹Anc (set f n b) n d› with
          | self => exact absurd rfl z
          | up e h => rw [set_at] at e; cases e; exact h
        have hb := (anc_low T lb).mp this
        clear h
        cases a with
        | root => exact nr rfl
        | @adv _ u _ a e _ lt =>
          have cu := cf u e lt
          have fu := I.full u (G.En e).1 (by omega)
          exact I.seen u d j ((N.above u e fu).trans hb) (by omega) a
        | @ret j u _ a e _ _ =>
          have cu := cb u e
          have fu := I.full u (G.En e).1 (by omega)
          exact I.seen u d j ((N.above u e fu).trans hb) (by omega) a
    · cases a with
      | root => exact nr rfl
      | @adv _ u _ a e _ lt =>
        have cu := cf u e lt
        have fu := I.full u (G.En e).1 (by omega)
        exact I.seen u d j ((N.above u e fu).trans h) (by omega) a
      | @ret j u _ a e _ _ =>
        have cu := cb u e
        have fu := I.full u (G.En e).1 (by omega)
        exact I.seen u d j ((N.above u e fu).trans h) (by omega) a
  refine ⟨T', fun {v u} e vr => ?_, fun {v} hv d hd nav => ?_, fun v d j h hj => ?_, fun v hv hc => ?_⟩
  · by_cases z : v = n
    · rw [z, set_at] at e
      cases e
      rw [z]
      exact .snoc (I.wayAnc hpb) ep lb
    · rw [set_ne z] at e
      exact I.way e vr
  · -- no dominator is lost
    have domN : ¬ Avoid G d n → d ≠ n → Anc f b d := fun nav ne => N.least d fun q eq hq => I.dom hq d hd fun av => nav ⟨av.1, .snoc av.2 eq fun z => ne z.symm⟩
    by_cases z : v = n
    · by_cases y : d = n
      · rw [z, y]; exact .self _
      · rw [z] at nav ⊢
        exact anc_new T lb (.self _) (domN nav y)
    · rw [set_ne z] at hv
      have h := I.dom hv d hd nav
      by_cases y : Anc f v n
      · by_cases le : G.pl n ≤ G.pl d
        · exact anc_high T h le (T.total y h le (by
            cases e : f v with
            | none => exact absurd e hv
            | some u => exact (T.tot e).1))
        · refine anc_new T lb y (domN (fun av => nav ⟨av.1, av.2.trans ((I.wayAnc y).mono fun x hx e => ?_)⟩) fun e => le (by rw [e]; exact Nat.le_refl _))
          rw [e] at hx
          omega
      · exact anc_free h y
  · -- what the ways so far leave out is left out
    by_cases z : v = n
    · rw [if_pos z] at hj
      rw [z] at h ⊢
      exact seenN d j h hj
    · rw [if_neg z] at hj
      rcases anc_old T lb h with h | ⟨h1, h2⟩
      · exact I.seen v d j h hj
      · intro a
        rcases a.split n with a | ⟨i, hi, a⟩
        · exact I.seen v n j h1 hj a
        · have := ck v
          exact seenN d i (anc_new T lb (.self _) h2) (by omega) a
  · by_cases z : v = n
    · rw [z, set_at]; intro y; cases y
    · rw [set_ne z]
      rw [if_neg z] at hc
      exact I.full v hv hc
/-- nothing changes any more: these are the dominators -/
theorem Inv.exact {c : Nat → Nat} (I : Inv G f c) (fix : ∀ v, G.V v → v ≠ G.r → ∃ b, f v = some b ∧ Near G f v b) {v d : Nat} (h : Anc f v d) : ¬ Avoid G d v := by
  rintro ⟨rd, w⟩
  have : ¬ Anc f v d := by
    clear h
    induction w with
    | nil => exact fun a => rd (I.tr.root_only a).symm
    | @snoc u v _ e ne ih =>
      intro a
      by_cases z : v = G.r
      · rw [z] at a; exact rd (I.tr.root_only a).symm
      · obtain ⟨b, eb, N⟩ := fix v (G.En e).2 z
        have ab := I.tr.up_of a ne eb
        have fu : f u ≠ none := by
          by_cases y : u = G.r
          · rw [y, I.tr.root]; intro x; cases x
          · obtain ⟨b', e', _⟩ := fix u (G.En e).1 y
            rw [e']; intro x; cases x
        exact ih ((N.above u e fu).trans ab)
  exact this h
/-- behind enough rounds nothing changes -/
theorem Inv.still {c : Nat → Nat} (I : Inv G f c) {K n b : Nat} (hK : ∀ d v, G.V d → G.V v → Avoid G d v → ∃ k, k ≤ K ∧ Av G d k v) (hc : ∀ v, G.V v → v ≠ G.r → K < c v) (hn : G.V n) (nr : n ≠ G.r) (N : Near G f n b) : f n = some b := by
  have T := I.tr
  have full : ∀ v, G.V v → f v ≠ none := fun v hv => by
    by_cases z : v = G.r
    · rw [z, T.root]; intro x; cases x
    · exact I.full v hv (Nat.lt_of_le_of_lt (Nat.zero_le _) (hc v hv z))
  have ex : ∀ {v d}, G.V v → Anc f v d → ¬ Avoid G d v := fun {v d} hv h av => by
    by_cases z : v = G.r
    · rw [z] at h
      exact av.1 (T.root_only h).symm
    · obtain ⟨k, hk, a⟩ := hK d v (T.lt h hv) hv av
      exact I.seen v d k h (Nat.lt_of_le_of_lt hk (hc v hv z)) a
  have lb := N.lt T
  obtain ⟨p, ep, hp, lp⟩ := N.some
  have bn : G.V b := T.lt (N.above p ep hp) (G.En ep).1
  cases e : f n with
  | none => exact absurd e (full n hn)
  | some u =>
    have un := (T.tot e).2.1
    have lu := T.dec e nr
    -- b is above u
    have h1 : Anc f n b := I.dom (full n hn) b bn fun av => by
      obtain ⟨rd, w⟩ := av
      cases w with
      | nil => exact nr rfl
      | @snoc q _ w eq ne => exact ex (G.En eq).1 (N.above q eq (full q (G.En eq).1)) ⟨rd, w⟩
    have h2 : Anc f u b := T.up_of h1 (fun z => by rw [z] at lb; exact Nat.lt_irrefl _ lb) e
    have h3 : Anc f b u := N.least u fun q eq hq => I.dom hq u un fun av => ex hn (.up e (.self _)) ⟨av.1, .snoc av.2 eq fun z => by rw [z] at lu; exact Nat.lt_irrefl _ lu⟩
    have := T.le h2
    have := T.le h3
    rw [G.inj un bn (by omega)]
end
end Dm
/-! ### a search in depth: its states -/
structure Dfs (xss : List (List Int)) (root : Nat) (ord stk fol : List Nat) : Prop where
  lenf : fol.length = stk.length
  nd : (stk ++ ord).Nodup
  lt : ∀ v ∈ stk ++ ord, v < xss.length
  bot : (∃ s, stk = root :: s) ∨ (stk = [] ∧ ∃ o, ord = o ++ [root])
  edge : ∀ (i u v : Nat), stk[i]? = some u → stk[i + 1]? = some v → (v : Int) ∈ xss.getD u []
  done : ∀ (i u k : Nat), stk[i]? = some u → fol[i]? = some k → k ≤ (xss.getD u []).length ∧ ∀ (j : Nat) (t : Int), j < k → (xss.getD u [])[j]? = some t → t.toNat ∈ stk ++ ord
  out : ∀ v ∈ ord, ∀ t ∈ xss.getD v [], t.toNat ∈ stk ++ ord
  par : ∀ (i v : Nat), ord[i]? = some v → v ≠ root → ∃ u, (v : Int) ∈ xss.getD u [] ∧ (u ∈ stk ∨ ∃ j, i < j ∧ ord[j]? = some u)
structure OrdOk (xss : List (List Int)) (root : Nat) (ord : List Nat) : Prop where
  nd : ord.Nodup
  lt : ∀ v ∈ ord, v < xss.length
  head : ord[0]? = some root
  closed : ∀ v ∈ ord, ∀ t ∈ xss.getD v [], t.toNat ∈ ord
  par : ∀ (i v : Nat), ord[i]? = some v → v ≠ root → ∃ j u, j < i ∧ ord[j]? = some u ∧ (v : Int) ∈ xss.getD u []
section
variable {xss : List (List Int)} {root : Nat} {ord s fs : List Nat} {u k : Nat}
theorem getElem?_concat {α : Type} (l : List α) (a : α) (i : Nat) : (l ++ [a])[i]? = if i < l.length then l[i]? else if i = l.length then some a else none := by
  by_cases h : i < l.length
  · rw [if_pos h, List.getElem?_append_left h]
  · rw [if_neg h, List.getElem?_append_right (by omega)]
    by_cases e : i = l.length
    · rw [if_pos e, e, Nat.sub_self]; rfl
    · rw [if_neg e]
      exact List.getElem?_eq_none (by rw [List.length_singleton]; omega)
theorem Dfs.start (h : root < xss.length) : Dfs xss root [] [root] [0] := by
  refine ⟨rfl, by simp, fun v m => ?_, .inl ⟨[], rfl⟩, fun i u v _ e => ?_, fun i u k e1 e2 => ?_, fun v m => (by cases m), fun i v e => (by simp at e)⟩
  · rw [List.append_nil, List.mem_singleton] at m
    rw [m]; exact h
  · have := (List.getElem?_eq_some_iff.mp e).1
    simp at this
  · have : i = 0 := by have := (List.getElem?_eq_some_iff.mp e1).1; simp at this; exact this
    subst this
    cases e1
    cases e2
    exact ⟨Nat.zero_le _, fun j t hj => absurd hj (Nat.not_lt_zero _)⟩
theorem Dfs.len (D : Dfs xss root ord (s ++ [u]) (fs ++ [k])) : fs.length = s.length := by
  have := D.lenf
  rw [List.length_append, List.length_append] at this
  exact Nat.add_right_cancel this
theorem Dfs.top (D : Dfs xss root ord (s ++ [u]) (fs ++ [k])) : (s ++ [u])[s.length]? = some u ∧ (fs ++ [k])[s.length]? = some k := by
  have l := D.len
  refine ⟨?_, ?_⟩
  · rw [getElem?_concat, if_neg (Nat.lt_irrefl _), if_pos rfl]
  · rw [getElem?_concat, if_neg (by omega), if_pos l.symm]
theorem Dfs.pop (D : Dfs xss root ord (s ++ [u]) (fs ++ [k])) (hk : k = (xss.getD u []).length) : Dfs xss root (ord ++ [u]) s fs := by
  have l := D.len
  have sub : ∀ v, v ∈ (s ++ [u]) ++ ord ↔ v ∈ s ++ (ord ++ [u]) := fun v => by
    simp only [List.mem_append, List.mem_singleton]
    constructor
    · rintro ((h | h) | h)
      · exact .inl h
      · exact .inr (.inr h)
      · exact .inr (.inl h)
    · rintro (h | h | h)
      · exact .inl (.inl h)
      · exact .inr h
      · exact .inl (.inr h)
  obtain ⟨t1, t2⟩ := D.top
  refine ⟨l, ?_, fun v m => D.lt v ((sub v).mpr m), ?_, fun i a b e1 e2 => ?_, fun i a j e1 e2 => ?_, fun v m t ht => ?_, fun i v e ne => ?_⟩
  · have p : ((s ++ [u]) ++ ord).Perm (s ++ (ord ++ [u])) := by
      rw [List.append_assoc]
      exact List.Perm.append_left s List.perm_append_comm
    exact p.nodup_iff.mp D.nd
  · rcases D.bot with ⟨r, e⟩ | ⟨e, _⟩
    · cases s with
      | nil => cases e; exact .inr ⟨rfl, ord, rfl⟩
      | cons a s => cases e; exact .inl ⟨s, rfl⟩
    · exact absurd e (by simp)
  · have h2 := (List.getElem?_eq_some_iff.mp e2).1
    refine D.edge i a b ?_ ?_
    · rw [getElem?_concat, if_pos (by omega)]; exact e1
    · rw [getElem?_concat, if_pos h2]; exact e2
  · have h1 := (List.getElem?_eq_some_iff.mp e1).1
    have := D.done i a j (by rw [getElem?_concat, if_pos h1]; exact e1) (by rw [getElem?_concat, if_pos (by omega)]; exact e2)
    exact ⟨this.1, fun q t hq e => (sub _).mp (this.2 q t hq e)⟩
  · rcases List.mem_append.mp m with m | m
    · exact (sub _).mp (D.out v m t ht)
    · rw [List.mem_singleton.mp m] at ht
      obtain ⟨q, hq, e⟩ := List.getElem_of_mem ht
      exact (sub _).mp ((D.done _ u k t1 t2).2 q t (by omega) (by rw [List.getElem?_eq_getElem hq, e]))
  · rw [getElem?_concat] at e
    by_cases hi : i < ord.length
    · rw [if_pos hi] at e
      obtain ⟨a, ha, h⟩ := D.par i v e ne
      refine ⟨a, ha, ?_⟩
      rcases h with h | ⟨j, hj, e2⟩
      · rcases List.mem_append.mp h with h | h
        · exact .inl h
        · rw [List.mem_singleton.mp h]
          exact .inr ⟨ord.length, hi, by rw [getElem?_concat, if_neg (Nat.lt_irrefl _), if_pos rfl]⟩
      · exact .inr ⟨j, hj, by rw [getElem?_concat, if_pos (List.getElem?_eq_some_iff.mp e2).1]; exact e2⟩
    · rw [if_neg hi] at e
      by_cases z : i = ord.length
      · rw [if_pos z] at e
        cases e
        -- the parent is the one below on the stack
        cases hs : s.length with
        | zero =>
          have : s = [] := List.eq_nil_of_length_eq_zero hs
          subst this
          rcases D.bot with ⟨r, e⟩ | ⟨e, _⟩
          · cases e; exact absurd rfl ne
          · exact absurd e (by simp)
        | succ m =>
          have hm : m < s.length := by omega
          refine ⟨s[m], D.edge m s[m] u (by rw [getElem?_concat, if_pos hm]; exact List.getElem?_eq_getElem hm) (by rw [← hs]; exact t1), .inl (List.getElem_mem hm)⟩
      · rw [if_neg z] at e; cases e
theorem Dfs.skip (D : Dfs xss root ord (s ++ [u]) (fs ++ [k])) {t : Int} (ht : (xss.getD u [])[k]? = some t) (m : t.toNat ∈ (s ++ [u]) ++ ord) : Dfs xss root ord (s ++ [u]) (fs ++ [k + 1]) := by
  have l := D.len
  obtain ⟨t1, t2⟩ := D.top
  refine ⟨by rw [List.length_append, List.length_append, l]; rfl, D.nd, D.lt, D.bot, D.edge, fun i a j e1 e2 => ?_, D.out, D.par⟩
  rw [getElem?_concat] at e2
  by_cases hi : i < fs.length
  · rw [if_pos hi] at e2
    exact D.done i a j e1 (by rw [getElem?_concat, if_pos hi]; exact e2)
  · rw [if_neg hi] at e2
    by_cases z : i = fs.length
    · rw [if_pos z] at e2
      cases e2
      rw [z, l] at e1
      rw [t1] at e1
      cases e1
      refine ⟨(List.getElem?_eq_some_iff.mp ht).1, fun q x hq e => ?_⟩
      by_cases y : q = k
      · rw [y, ht] at e; cases e; exact m
      · exact (D.done _ u k t1 t2).2 q x (by omega) e
    · rw [if_neg z] at e2; cases e2
theorem Dfs.push (D : Dfs xss root ord (s ++ [u]) (fs ++ [k])) {t : Nat} (ht : (xss.getD u [])[k]? = some (t : Int)) (lt : t < xss.length) (m : t ∉ (s ++ [u]) ++ ord) : Dfs xss root ord ((s ++ [u]) ++ [t]) ((fs ++ [k + 1]) ++ [0]) := by
  have l := D.len
  obtain ⟨t1, t2⟩ := D.top
  have sub : ∀ v, v ∈ (s ++ [u]) ++ ord → v ∈ ((s ++ [u]) ++ [t]) ++ ord := fun v h => by
    rcases List.mem_append.mp h with h | h
    · exact List.mem_append_left _ (List.mem_append_left _ h)
    · exact List.mem_append_right _ h
  have tin : t ∈ ((s ++ [u]) ++ [t]) ++ ord := List.mem_append_left _ (List.mem_append_right _ (.head _))
  have ls : (s ++ [u]).length = s.length + 1 := by rw [List.length_append]; rfl
  refine ⟨by simp only [List.length_append, List.length_singleton, l], ?_, fun v h => ?_, ?_, fun i a b e1 e2 => ?_, fun i a j e1 e2 => ?_, fun v h x hx => sub _ (D.out v h x hx), fun i v e ne => ?_⟩
  · have p : (t :: ((s ++ [u]) ++ ord)).Perm (((s ++ [u]) ++ [t]) ++ ord) := by
      rw [List.append_assoc (s ++ [u])]
      exact List.perm_middle.symm
    exact p.nodup_iff.mp (List.nodup_cons.mpr ⟨m, D.nd⟩)
  · rcases List.mem_append.mp h with h | h
    · rcases List.mem_append.mp h with h | h
      · exact D.lt v (List.mem_append_left _ h)
      · rw [List.mem_singleton.mp h]; exact lt
    · exact D.lt v (List.mem_append_right _ h)
  · rcases D.bot with ⟨r, e⟩ | ⟨e, _⟩
    · exact .inl ⟨r ++ [t], by rw [e]; rfl⟩
    · exact absurd e (by simp)
  · rw [getElem?_concat] at e1 e2
    by_cases hi : i + 1 < (s ++ [u]).length
    · rw [if_pos hi] at e2
      rw [if_pos (by omega)] at e1
      exact D.edge i a b e1 e2
    · rw [if_neg hi] at e2
      by_cases z : i + 1 = (s ++ [u]).length
      · rw [if_pos z] at e2
        cases e2
        rw [if_pos (by omega), show i = s.length by omega, t1] at e1
        cases e1
        exact List.mem_of_getElem? ht
      · rw [if_neg z] at e2; cases e2
  · rw [getElem?_concat] at e1
    have lf : (fs ++ [k + 1]).length = (s ++ [u]).length := by rw [List.length_append, List.length_append, l]; rfl
    rw [getElem?_concat, lf] at e2
    by_cases hi : i < (s ++ [u]).length
    · rw [if_pos hi] at e1 e2
      rw [getElem?_concat] at e2
      by_cases hf : i < fs.length
      · rw [if_pos hf] at e2
        have := D.done i a j e1 (by rw [getElem?_concat, if_pos hf]; exact e2)
        exact ⟨this.1, fun q x hq e => sub _ (this.2 q x hq e)⟩
      · rw [if_neg hf, if_pos (by omega)] at e2
        cases e2
        rw [show i = s.length by omega, t1] at e1
        cases e1
        refine ⟨(List.getElem?_eq_some_iff.mp ht).1, fun q x hq e => ?_⟩
        by_cases y : q = k
        · rw [y, ht] at e; cases e; exact tin
        · exact sub _ ((D.done _ u k t1 t2).2 q x (by omega) e)
    · rw [if_neg hi] at e1 e2
      by_cases z : i = (s ++ [u]).length
      · rw [if_pos z] at e1 e2
        cases e1
        cases e2
        exact ⟨Nat.zero_le _, fun q x hq => absurd hq (Nat.not_lt_zero _)⟩
      · rw [if_neg z] at e1; cases e1
  · obtain ⟨a, ha, h⟩ := D.par i v e ne
    exact ⟨a, ha, h.elim (fun h => .inl (List.mem_append_left _ h)) .inr⟩
theorem Dfs.fin (D : Dfs xss root ord [] fs) : OrdOk xss root ord.reverse := by
  obtain ⟨o, eo⟩ : ∃ o, ord = o ++ [root] := by
    rcases D.bot with ⟨r, e⟩ | ⟨_, h⟩
    · cases e
    · exact h
  have mem : ∀ v, v ∈ [] ++ ord ↔ v ∈ ord.reverse := fun v => by rw [List.nil_append, List.mem_reverse]
  refine ⟨(List.reverse_perm ord).nodup_iff.mpr (by have := D.nd; rw [List.nil_append] at this; exact this), fun v m => D.lt v ((mem v).mpr m), ?_, fun v m t ht => (mem _).mp (D.out v ((mem v).mpr m) t ht), fun i v e ne => ?_⟩
  · rw [eo, List.reverse_append]; rfl
  · have hi := (List.getElem?_eq_some_iff.mp e).1
    rw [List.length_reverse] at hi
    rw [List.getElem?_reverse hi] at e
    obtain ⟨u, hu, h⟩ := D.par _ v e ne
    rcases h with h | ⟨j, hj, e2⟩
    · cases h
    · have hj2 := (List.getElem?_eq_some_iff.mp e2).1
      refine ⟨ord.length - 1 - j, u, by omega, ?_, hu⟩
      rw [List.getElem?_reverse (by omega), show ord.length - 1 - (ord.length - 1 - j) = j by omega]
      exact e2
def cost (d : Nat) (fol : List Nat) : Nat := (fol.map fun k => d + 1 - k).sum
theorem cost_snoc (d : Nat) (fs : List Nat) (k : Nat) : cost d (fs ++ [k]) = cost d fs + (d + 1 - k) := by
  unfold cost
  rw [List.map_append, List.sum_append, List.map_singleton]
  simp
theorem few_below : ∀ (n : Nat) (l : List Nat), l.Nodup → (∀ v ∈ l, v < n) → l.length ≤ n
  | 0, l, _, h => by
    cases l with
    | nil => exact Nat.le_refl _
    | cons a r => exact absurd (h a (.head _)) (Nat.not_lt_zero _)
  | n + 1, l, nd, h => by
    have a := few_below n (l.erase n) (nd.erase n) fun v m => by
      have h1 := h v (List.mem_of_mem_erase m)
      have h2 : v ≠ n := fun e => by
        rw [e] at m
        exact (List.Nodup.mem_erase_iff nd).mp m |>.1 rfl
      omega
    rw [List.length_erase] at a
    split at a <;> omega
theorem Dfs.count (D : Dfs xss root ord s fs) : s.length + ord.length ≤ xss.length := by
  have := few_below xss.length (s ++ ord) D.nd D.lt
  rw [List.length_append] at this
  exact this
end
/-! ### rules: xs[i] read to be changed; {k: v for ..} as a statement; a while by a number -/
section
variable {X : Cx}
theorem pg_list : PGet X (rIxL X.K) := by
  intro pins s σ H o i ov iv Q I ro ri h
  obtain ⟨p, xs, j, z, rfl, rfl, hq, he, q⟩ := h
  cases ro
  obtain ⟨t, rfl⟩ := ri
  obtain ⟨its, r, pl, hz⟩ := I.list hq
  obtain ⟨m, h1, h2, h3, h4, h5⟩ := atI_get he
  obtain ⟨w, ew, rw'⟩ := r.get h2
  have hl := r.length
  have hn := line63
  by_cases h0 : 0 ≤ j
  · have hj : j.toNat = m := by
      rw [seqIndex_of h0 h5] at h1
      exact Option.some.inj h1
    exact wpAny_getItem_list pl.isList h0 (by omega) (by rw [hj]; simpa using ew) ⟨z, H, I, rw', q⟩
  · have hj : (j + (its.toArray.size : Int)).toNat = m := by
      rw [seqIndex_neg (by omega) h4] at h1
      rw [List.size_toArray, ← hl]
      exact Option.some.inj h1
    exact wpAny_getItem_list_neg pl.isList (by omega) (by rw [List.size_toArray] <;> omega) (by omega) (by rw [hj]; simpa using ew) ⟨z, H, I, rw', q⟩
end
theorem while_m {c : TT} {tb : TS} {D : Ends} {σ : L2.St} {H : Hp} (W : Nat → L2.St → Hp → Prop) (h0 : ∃ m, W m σ H)
    (hs : ∀ m σ H, W m σ H → c σ H fun b H1 => if b = true then tb { D with nx := fun σ' H' => ∃ m', m' < m ∧ W m' σ' H', ct := fun σ' H' => ∃ m', m' < m ∧ W m' σ' H', bk := D.nx } σ H1 else D.nx σ H1)
    (mono : ∀ σ H Q Q', (∀ b H1, Q b H1 → Q' b H1) → c σ H Q → c σ H Q') : tWhile c tb D σ H := by
  refine ⟨W, h0, fun m σ H w => mono σ H _ _ (fun b H1 q => ?_) (hs m σ H w)⟩
  cases b with
  | true => exact ⟨_, fun σ' H' x => x, q⟩
  | false => exact q
section
variable {X : Cx}
/-- y = {k: v for ..}: the target is stored while the block's frame stands -/
theorem ps_setDc {i : Nat} {y : Str} {py : Pos} {kx vx tg iter : Expr} {ifs : List Expr} {scope : Scope} {own : List (Str × Nat)} {pos spos : Pos} {wi : TI} {g : TG} {tt : TT} {tk tv : TE} (calm : X.calm = true) (nd : X.N.Nodup) (hy : X.N[i]? = some y)
    (loc : X.env.scope.names.lookup y = some .local) (sw : swapsWith (.DictComp kx vx [⟨tg, iter, ifs, 0⟩] scope pos) (some (.Name y py)) spos.line X.env = pure true) (hi : PI X tg iter wi) (ok : BlkOk X.N X.env.scope scope own)
    (hg : ∀ (s : Shared) (H : Hp) (C : Addr) (cl : List (Str × Addr)) (fp : List Addr), PG (X.blk s H scope (compEnvC scope cl C X.env) fp) tg g) (ht : ∀ (s : Shared) (H : Hp) (C : Addr) (cl : List (Str × Addr)) (fp : List Addr), PTs (X.blk s H scope (compEnvC scope cl C X.env) fp) ifs tt)
    (hk : ∀ (s : Shared) (H : Hp) (C : Addr) (cl : List (Str × Addr)) (fp : List Addr), PE (X.blk s H scope (compEnvC scope cl C X.env) fp) kx tk) (hv : ∀ (s : Shared) (H : Hp) (C : Addr) (cl : List (Str × Addr)) (fp : List Addr), PE (X.blk s H scope (compEnvC scope cl C X.env) fp) vx tv)
    (fold : ∀ x, foldedSetIterable iter X.env x = pure x := by intro _; rfl) : PS X (.Assign [.Name y py] (.DictComp kx vx [⟨tg, iter, ifs, 0⟩] scope pos) spos) (tAsg (tDc wi g tt tk tv (own.map (·.2))) (gName i)) := by
  refine ⟨fun pins s σ H D I h => ?_⟩
  rw [exec_Assign_Name_used _ _ _ _ sw]
  refine wpAny_bind (wpAny_standAt (wpAny_bind ?_))
  show wpAny _ X.A (do let _ ← comprehension (.DictComp kx vx [⟨tg, iter, ifs, 0⟩] scope pos) scope X.env (firstIterPos [⟨tg, iter, ifs, 0⟩] pos) newDict false (eval iter X.env) (some (assign (.Name y py) X.env))) _ _ s
  have go : tDc wi g tt tk tv (own.map (·.2)) σ H (fun x H1 => gName i x σ H1 D.nx) := h
  refine wpAny_bind (thn (dc_core (Qf := fun _ s' => SP X pins D .next s') calm nd I hi ok hg ht hk hv fold go fun L C s1 m H1 J q hn f => ?_) fun _ s1 z => wpAny_pure (wpAny_pure z))
  show wpAny _ _ (assign (.Name y py) X.env (.ref L)) _ _ _
  refine wpAny_assign_Name (store_ok2 (v := V.ref L) J nd hy (.inl loc) rfl (fun s2 J2 ⟨a, sb, ha⟩ => ?_) (.inr loc))
  obtain ⟨f0, f1, f2, f3, f4, f5⟩ := f
  have apart : C ≠ a := fun e => ha.elim (fun z => f1 (e.trans z)) fun z => f4 y a z e.symm
  exact ⟨m, hn.sameBut sb apart, fun h3 sb3 => ⟨_, H1, J2.turned (t' := s2.toks) (fun b o nb z => (sb3.2 b nb).trans z) f0 f1 f3 f4 f5, q⟩⟩
theorem swd_true {kx vx : Expr} {gs : List Comprehension} {scope : Scope} {pos py : Pos} {y : Str} {l : Nat} {env : Env} (hk : env.scope.kind = .function) (hy : env.scope.names.lookup y = some .local) (hl : (py.line == pos.line) = true)
    (own : (scope.names.any fun (n, k) => n == y && (k == .local || k == .cell)) = false) : swapsWith (.DictComp kx vx gs scope pos) (some (.Name y py)) l env = pure true := by
  have k1 : env.kindOf y = some .local := hy
  have k2 : env.blockKind = .function := by unfold Env.blockKind; rw [hk]; rfl
  unfold swapsWith
  simp only [k2, k1, own, Expr.pos, hl]
  rfl
end
/-- a dict comprehension over whatever is walked -/
theorem dc_it {J : It} {n : Nat} {G : Hp → Prop} {Y : Nat → Hp → V → Hp → Prop} (w : Walk J n G Y) {g : TG} {tt : TT} {tk tv : TE} {vs : List Nat} {σ : L2.St} {H1 : Hp} {D : Addr} {Qd : Hp → Prop} (Pv : Nat → Hp → Prop) (h0 : Pv 0 (upd H1 D (.dK []))) (hG : ∀ i H, i ≤ n → Pv i H → G H)
    (hs : ∀ i x H H', i < n → Pv i H → Y i H x H' → g x (wipe σ vs) H' fun σ2 H2 => wipe σ2 vs = wipe σ vs ∧ tt σ2 H2 fun b H3 =>
      if b = true then tk σ2 H3 fun y H4 => tv σ2 H4 fun z H5 => ∃ kvs k, y = kV k ∧ H5 D = some (.dK kvs) ∧ kvs.length < sizeLine ∧ Pv (i + 1) (upd H5 D (.dK (putK kvs k z))) else Pv (i + 1) H3) (hd : ∀ H, Pv n H → Qd H) :
    ∃ W : Nat → Nat → Hp → Prop, (∃ m, W 0 m (upd H1 D (.dK []))) ∧ ∀ i m H, W i m H →
      (J.stop i H ∧ Qd H) ∨ (J.go i H ∧ ∃ Nx : Hp → Prop, (∀ H', Nx H' → ∃ m', m' < m ∧ W (i + 1) m' H') ∧ ∀ x H', J.yld i H x H' → g x (wipe σ vs) H' fun σ2 H2 => wipe σ2 vs = wipe σ vs ∧ tt σ2 H2 fun b H3 =>
        if b = true then tk σ2 H3 fun y H4 => tv σ2 H4 fun z H5 => ∃ kvs k, y = kV k ∧ H5 D = some (.dK kvs) ∧ kvs.length < sizeLine ∧ Nx (upd H5 D (.dK (putK kvs k z))) else Nx H3) := by
  refine ⟨fun i m H => m = n - i ∧ i ≤ n ∧ Pv i H, ⟨n, by simp, Nat.zero_le _, h0⟩, fun i m H ⟨hm, hi, p⟩ => ?_⟩
  subst hm
  rcases Nat.lt_or_ge i n with lt | ge
  · exact .inr ⟨w.goes i H lt (hG i H hi p), Pv (i + 1), fun H' p' => ⟨n - (i + 1), by omega, rfl, lt, p'⟩, fun x H' y => hs i x H H' lt p (w.yields i H x H' lt (hG i H hi p) y)⟩
  · obtain rfl : i = n := by omega
    exact .inl ⟨w.stops H (hG _ H hi p), hd H p⟩
def natV (l : List Nat) : List V := l.map fun (n : Nat) => V.int (n : Int)
theorem natV_snoc (l : List Nat) (a : Nat) : natV (l ++ [a]) = natV l ++ [.int (a : Int)] := by unfold natV; rw [List.map_append]; rfl
theorem natV_len (l : List Nat) : (natV l).length = l.length := by unfold natV; rw [List.length_map]
theorem ixN_last (n : Nat) : ixN (n + 1) (-1) = some n := by
  unfold ixN
  rw [if_neg (by decide), if_pos (by omega)]
  congr 1
  omega
theorem set_last {α : Type} (xs : List α) (a b : α) : (xs ++ [a]).set xs.length b = xs ++ [b] := by
  induction xs with
  | nil => rfl
  | cons x r ih => exact congrArg (x :: ·) ih
theorem drop_last {α : Type} (xs : List α) (a : α) : (xs ++ [a]).dropLast = xs := List.dropLast_concat
theorem last_at {α : Type} (xs : List α) (a : α) : (xs ++ [a])[(xs ++ [a]).length - 1]? = some a := by
  rw [List.length_append, List.length_singleton, Nat.add_sub_cancel, List.getElem?_append_right (Nat.le_refl _), Nat.sub_self]
  rfl
theorem snoc_cases {α : Type} (l : List α) : l = [] ∨ ∃ s u, l = s ++ [u] := by
  rcases List.eq_nil_or_concat l with h | ⟨s, u, h⟩
  · exact .inl h
  · exact .inr ⟨s, u, by rw [h, List.concat_eq_append]⟩
/-- a dict of the nodes that were seen -/
def Seen (H : Hp) (D : Addr) (P : Nat → Prop) (n : Nat) : Prop := ∃ kvs : List (Key × V), H D = some (.dK kvs) ∧ kvs.length ≤ n ∧ ∀ v : Nat, (valV kvs (.inl (v : Int))).isSome = true ↔ P v
structure WaysIn (xss : List (List Int)) : Prop where
  lt : ∀ xs ∈ xss, ∀ t ∈ xs, 0 ≤ t ∧ t < xss.length
  few : xss.length ≤ 500
  deg : ∀ xs ∈ xss, xs.length ≤ 500
theorem WaysIn.row {xss : List (List Int)} (h : WaysIn xss) (v : Nat) : (xss.getD v []).length ≤ 500 ∧ ∀ t ∈ xss.getD v [], 0 ≤ t ∧ t < xss.length := by
  rw [List.getD_eq_getElem?_getD]
  by_cases hv : v < xss.length
  · rw [List.getElem?_eq_getElem hv]
    exact ⟨h.deg _ (List.getElem_mem hv), h.lt _ (List.getElem_mem hv)⟩
  · rw [List.getElem?_eq_none (by omega)]
    exact ⟨Nat.zero_le _, fun t m => (by cases m)⟩
theorem rows_item {K : PySem.W.Frag} {H : Hp} {v : V} {xss : List (List Int)} {i : Nat} (h : Dp K H v (rowsD xss)) (hi : i < xss.length) :
    ∃ a us b, v = .ref a ∧ SqL K H a us ∧ atI us (i : Int) = some (.ref b) ∧ SqL K H b ((xss.getD i []).map V.int) := by
  have e : (xss.map fun xs => PyData.list (xs.map PyData.int))[i]? = some (.list ((xss.getD i []).map PyData.int)) := by
    rw [List.getElem?_map, List.getD_eq_getElem?_getD, List.getElem?_eq_getElem hi]; rfl
  obtain ⟨a, us, u, rfl, h1, h2, h3⟩ := Dp.itemL h e
  obtain ⟨b, ws, rfl, h4, h5⟩ := Dp.lstInv h3
  have : ws = (xss.getD i []).map V.int := by
    have go : ∀ (xs : List Int) (ws : List V), DpAll K H ws (xs.map PyData.int) → ws = xs.map V.int := by
      intro xs
      induction xs with
      | nil => intro ws h; cases h; rfl
      | cons x r ih => intro ws h; cases h with
        | cons h1 h2 => rw [Dp.intInv h1, ih _ h2]; rfl
    exact go _ _ h5
  rw [this] at h4
  exact ⟨a, us, b, rfl, h1, h2, h4⟩
def sp_outward (K : PySem.W.Frag) : Sp := fun vs H Q _ => ∃ (root : Nat) (v : V) (xss : List (List Int)), vs = [.int (root : Int), v] ∧ Dp K H v (rowsD xss) ∧ WaysIn xss ∧ root < xss.length ∧
  ∀ O H' ord, Same H H' → H O = none → H' O = some (.lst (natV ord)) → OrdOk xss root ord → Q (.ref O) H'
theorem ok_outward_order (T : Tx w K mg) : FnOk P w K mg base CX0 1 T.a_outward_order T.d_outward_order ["root", "ways"] (sp_outward K) := by
  refine T.F_outward_order.ok sc_outward_order (fun vs H Q E h => ?_) (fun cdv A outer s H vs Q E hr h => ?_)
  · obtain ⟨root, v, xss, rfl, _⟩ := h
    rfl
  · obtain ⟨root, v, xss, rfl, dv, WI, hroot, k⟩ := h
    refine ⟨_, (pss_cons (ps_set (i := 2) sc_outward_order.nd rfl (.inl rfl) (pe_lst pa_nil))
      (pss_cons (ps_set (i := 3) sc_outward_order.nd rfl (.inl rfl) (pe_disp (pps_cons (pv 0) pe_bl pps_nil) (by rfl) (by rfl) (fun z => by cases z) (by decide)))
      (pss_cons (ps_set (i := 4) sc_outward_order.nd rfl (.inl rfl) (pe_lst (pa_cons (pv 0) pa_nil)))
      (pss_cons (ps_set (i := 5) sc_outward_order.nd rfl (.inl rfl) (pe_lst (pa_cons pe_int pa_nil)))
      (pss_cons (ps_while PassesOwn.never (pt_cmpR op_gt (pe_callB call_len_seq (by rfl) T.z_len (by decide +kernel) (pa_cons (pv 4) pa_nil)) pe_int (nomark _)) (pss_cons (ps_set (i := 6) sc_outward_order.nd rfl (.inl rfl) (pe_ix ix_list (pv 4) (pe_un un_neg pe_int) (fun _ _ => rfl)))
      (pss_one (ps_if (pt_cmpR op_eq (pe_ix ix_list (pv 5) (pe_un un_neg pe_int) (fun _ _ => rfl)) (pe_callB call_len_seq (by rfl) T.z_len (by decide +kernel) (pa_cons (pe_ix ix_list (pv 1) (pv 6) (fun _ _ => rfl)) pa_nil)) (nomark _)) (pss_cons (ps_expr (pe_bm PySem.F.plainAttrs_list PySem.F.slot_list_append PySem.F.type_list_append mt_append (pv 2) (pa_cons (pe_bm0 PySem.F.plainAttrs_list PySem.F.slot_list_pop PySem.F.type_list_pop mt_pop (pv 4)) pa_nil)))
      (pss_one (ps_expr (pe_bm0 PySem.F.plainAttrs_list PySem.F.slot_list_pop PySem.F.type_list_pop mt_pop (pv 5))))) (pss_cons (ps_set (i := 7) sc_outward_order.nd rfl (.inl rfl) (pe_ix ix_list (pe_ix ix_list (pv 1) (pv 6) (fun _ _ => rfl)) (pe_ix ix_list (pv 5) (pe_un un_neg pe_int) (fun _ _ => rfl)) (fun _ _ => rfl)))
      (pss_cons (ps_augS (pv 5) (pe_un un_neg pe_int) pg_list pe_int ip_add set_list)
      (pss_one (ps_if (pt_cmp (pc_dnotin (hu_of hr) (pv 7) (pv 3))) (pss_cons (ps_dput (hu_of hr) (pv 3) (pv 7) pe_bl rfl)
      (pss_cons (ps_expr (pe_bm PySem.F.plainAttrs_list PySem.F.slot_list_append PySem.F.type_list_append mt_append (pv 4) (pa_cons (pv 7) pa_nil)))
      (pss_one (ps_expr (pe_bm PySem.F.plainAttrs_list PySem.F.slot_list_append PySem.F.type_list_append mt_append (pv 5) (pa_cons pe_int pa_nil)))))) pss_nil))))))))
      (pss_cons (ps_expr (pe_bm0 PySem.F.plainAttrs_list PySem.F.slot_list_reverse PySem.F.type_list_reverse mt_reverse (pv 2)))
      (pss_one (ps_ret (pv 2))))))))), ?_⟩
    refine ⟨Nat.zero_le _, fun O nO => ?_⟩
    have s1 := same_new5 (o := .lst []) nO
    have hO1 : L2.upd H O (.lst []) O = some (.lst []) := upd_same
    generalize L2.upd H O (.lst []) = H1 at s1 hO1 ⊢
    refine fun D nD => ⟨_, rfl, upd_same, [(.inl (root : Int), .bl true)], rfl, Nat.le_of_ble_eq_true rfl, ?_⟩
    have nD0 := none_of s1 nD
    have hOD : O ≠ D := fun e => by rw [e] at hO1; rw [hO1] at nD; cases nD
    have s2 : Same H1 (L2.upd (L2.upd H1 D (.dK [])) D (.dK (mergeK [] [(.inl (root : Int), .bl true)]))) := fun b o hb => by
      have nb : b ≠ D := fun e => by rw [e, nD] at hb; cases hb
      rw [upd_ne nb, upd_ne nb]; exact hb
    have hD2 : L2.upd (L2.upd H1 D (.dK [])) D (.dK (mergeK [] [(.inl (root : Int), .bl true)])) D = some (.dK [(.inl (root : Int), .bl true)]) := upd_same
    generalize L2.upd (L2.upd H1 D (.dK [])) D (.dK (mergeK [] [(.inl (root : Int), .bl true)])) = H2 at s2 hD2 ⊢
    have hO2 := s2 _ _ hO1
    refine ⟨_, rfl, by walk_at "size", fun S nS => ?_⟩
    have s3 := same_new5 (o := .lst [.int (root : Int)]) nS
    have hS3 : L2.upd H2 S (.lst [.int (root : Int)]) S = some (.lst (natV [root])) := upd_same
    have nS0 := none_of (s1.trans s2) nS
    have hOS : O ≠ S := fun e => by rw [e] at hO2; rw [hO2] at nS; cases nS
    have hDS : D ≠ S := fun e => by rw [e] at hD2; rw [hD2] at nS; cases nS
    generalize L2.upd H2 S (.lst [.int (root : Int)]) = H3 at s3 hS3 ⊢
    refine ⟨by walk_at "size", fun F nF => ?_⟩
    have s4 := same_new5 (o := .lst [.int 0]) nF
    have hF4 : L2.upd H3 F (.lst [.int 0]) F = some (.lst (natV [0])) := upd_same
    have nF0 := none_of ((s1.trans s2).trans s3) nF
    have hOF : O ≠ F := fun e => by have z := s3 _ _ hO2; rw [e, nF] at z; cases z
    have hDF : D ≠ F := fun e => by have z := s3 _ _ hD2; rw [e, nF] at z; cases z
    have hSF : S ≠ F := fun e => by rw [e, nF] at hS3; cases hS3
    have s14 := ((s1.trans s2).trans s3).trans s4
    generalize L2.upd H3 F (.lst [.int 0]) = H4 at s4 hF4 s14 ⊢
    have seen0 : Seen H4 D (· ∈ [root] ++ []) 1 := by
      refine ⟨_, s4 _ _ (s3 _ _ hD2), Nat.le_refl _, fun v => ?_⟩
      have e : valV [((.inl (root : Int) : Key), V.bl true)] (.inl (v : Int)) = if (root : Int) = (v : Int) then some (.bl true) else none := by
        by_cases z : (root : Int) = (v : Int)
        · rw [if_pos z]; exact valV_pos (by rw [z])
        · rw [if_neg z, valV_neg (fun e => z (by cases e; rfl))]; rfl
      rw [e]
      by_cases z : (root : Int) = (v : Int)
      · rw [if_pos z]
        have : root = v := by omega
        simp [this]
      · rw [if_neg z]
        have : ¬ v = root := by omega
        simp [this]
    refine while_m (fun m σ H' => ∃ (ord stk fol : List Nat) (y6 y7 : Option V), σ = [some (.int (root : Int)), some v, some (.ref O), some (.ref D), some (.ref S), some (.ref F), y6, y7] ∧ m = (xss.length - (stk.length + ord.length)) * 502 + cost 500 fol ∧ Dfs xss root ord stk fol ∧
        H' O = some (.lst (natV ord)) ∧ H' S = some (.lst (natV stk)) ∧ H' F = some (.lst (natV fol)) ∧ Seen H' D (· ∈ stk ++ ord) (stk.length + ord.length) ∧ Same H H')
      ⟨_, [], [root], [0], none, none, rfl, rfl, Dfs.start hroot, s4 _ _ (s3 _ _ hO2), s4 _ _ hS3, hF4, seen0, s14⟩ ?_ ?_
    · rintro m σ H5 ⟨ord, stk, fol, y6, y7, rfl, rfl, Df, hO, hS, hF, hD, s5⟩
      refine ⟨_, rfl, _, _, rfl, .inl (SqL.of hS), _, _, rfl, rfl, _, rfl, ite2 (fun z => ?_) (fun z => ?_)⟩
      · rcases snoc_cases stk with rfl | ⟨s, u, rfl⟩
        · exact absurd (of_decide_eq_true z) (by simp [natV])
        rcases snoc_cases fol with rfl | ⟨fs, kk, rfl⟩
        · exact absurd Df.lenf (by simp)
        have un : u < xss.length := Df.lt u (by simp)
        obtain ⟨wa, wus, wb, ew, w1, w2, w3⟩ := rows_item (dv.same s5) un
        subst ew
        have rowU := WI.row u
        generalize hX : xss.getD u [] = xs at w3 rowU
        have hS' := hS
        have hF' := hF
        rw [natV_snoc] at hS' hF'
        refine ⟨_, rfl, _, rfl, _, _, _, _, rfl, rfl, SqL.of hS', atI_last _ _, ?_⟩
        refine ⟨_, rfl, _, rfl, _, _, _, _, rfl, rfl, SqL.of hF', atI_last _ _, _, rfl, _, rfl, _, _, _, _, rfl, rfl, w1, w2, _, _, rfl, .inl w3, rfl, _, rfl, ite2 (fun z => ?_) (fun z => ?_)⟩
        · have hk : kk = xs.length := by have := of_decide_eq_true z; cases this; rw [List.length_map]
          have cnt := Df.count
          have few := WI.few
          refine ⟨_, rfl, .inl ⟨rfl, _, SqL.of hO⟩, _, rfl, .inl ⟨rfl, _, SqL.of hS'⟩, _, _, _, rfl, rfl, hS', last_at _ _, ?_⟩
          rw [drop_last]
          refine ⟨_, _, _, rfl, rfl, (by rw [upd_ne hOS]; exact hO), small1000 (by rw [natV_len]; simp at cnt; omega), ?_⟩
          refine ⟨_, rfl, .inl ⟨rfl, _, SqL.of (by rw [upd_ne hOF.symm, upd_ne hSF.symm]; exact hF')⟩, _, _, _, rfl, rfl, (by rw [upd_ne hOF.symm, upd_ne hSF.symm]; exact hF'), last_at _ _, ?_⟩
          rw [drop_last]
          refine ⟨_, ?_, ord ++ [u], s, fs, _, _, rfl, rfl, Df.pop (by rw [hX]; exact hk), ?_, ?_, upd_same, ?_, ?_⟩
          · have l1 : (s ++ [u]).length = s.length + 1 := by rw [List.length_append]; rfl
            have l2 : (ord ++ [u]).length = ord.length + 1 := by rw [List.length_append]; rfl
            rw [l1, l2, cost_snoc, show s.length + (ord.length + 1) = s.length + 1 + ord.length by omega]
            have := rowU.1
            omega
          · rw [upd_ne hOF, upd_same, natV_snoc]
          · rw [upd_ne hSF, upd_ne hOS.symm, upd_same]
          · obtain ⟨kvs, q1, q2, q3⟩ := hD
            refine ⟨kvs, by rw [upd_ne hDF, upd_ne hOD.symm, upd_ne hDS]; exact q1, ?_, fun x => (q3 x).trans ?_⟩
            · simp only [List.length_append, List.length_singleton] at q2 ⊢; omega
            · simp only [List.mem_append, List.mem_singleton]
              constructor
              · rintro ((h | h) | h)
                · exact .inl h
                · exact .inr (.inr h)
                · exact .inr (.inl h)
              · rintro (h | h | h)
                · exact .inl (.inl h)
                · exact .inr h
                · exact .inl (.inr h)
          · exact same_upd (same_upd (same_upd s5 nS0) nO) nF0
        · have hk : ¬ kk = xs.length := fun e => z (decide_eq_true (by rw [e, List.length_map]))
          have cnt := Df.count
          have few := WI.few
          obtain ⟨t1, t2⟩ := Df.top
          have kle := (Df.done _ u kk t1 t2).1
          rw [hX] at kle
          have kl : kk < xs.length := by omega
          have tb := rowU.2 xs[kk] (List.getElem_mem kl)
          obtain ⟨t, ht⟩ : ∃ t : Nat, xs[kk] = (t : Int) := ⟨xs[kk].toNat, by omega⟩
          have hxk : (xss.getD u [])[kk]? = some (t : Int) := by rw [hX, List.getElem?_eq_getElem kl, ht]
          have tn : t < xss.length := by omega
          refine ⟨_, rfl, _, rfl, _, _, _, _, rfl, rfl, w1, w2, _, rfl, _, rfl, _, _, _, _, rfl, rfl, SqL.of hF', atI_last _ _, _, _, _, .int (t : Int), rfl, rfl, w3, atI_nat (by rw [List.getElem?_map, List.getElem?_eq_getElem kl, ht]; rfl), ?_⟩
          refine ⟨_, rfl, _, rfl, _, _, _, _, rfl, rfl, SqL.of hF', atI_last _ _, _, _, rfl, rfl, F, _, _, fs.length, rfl, rfl, hF', (by rw [List.length_append, natV_len]; exact ixN_last _), ?_⟩
          have sl : (natV fs ++ [V.int (kk : Int)]).set fs.length (.int ((kk : Int) + 1)) = natV (fs ++ [kk + 1]) := by
            rw [natV_snoc, ← natV_len fs, set_last]; rfl
          rw [sl]
          obtain ⟨kvs, q1, q2, q3⟩ := hD
          have q1' : L2.upd H5 F (.lst (natV (fs ++ [kk + 1]))) D = some (.dK kvs) := by rw [upd_ne hDF]; exact q1
          refine ⟨_, rfl, _, rfl, D, _, rfl, DGet.k (k := Sum.inl (t : Int)) q1', _, rfl, ?_⟩
          by_cases ms : t ∈ (s ++ [u]) ++ ord
          · have sm := (q3 t).mpr ms
            rw [sm]
            refine iteF ?_
            refine ⟨_, ?_, ord, s ++ [u], fs ++ [kk + 1], _, _, rfl, rfl, Df.skip hxk (by show (t : Int).toNat ∈ _; rw [Int.toNat_natCast]; exact ms), ?_, ?_, upd_same, ⟨kvs, q1', q2, q3⟩, same_upd s5 nF0⟩
            · rw [cost_snoc, cost_snoc]
              have := rowU.1
              omega
            · rw [upd_ne hOF]; exact hO
            · rw [upd_ne hSF]; exact hS
          · have sm : (valV kvs (Sum.inl (t : Int))).isSome = false := by
              cases e : (valV kvs (Sum.inl (t : Int))).isSome with
              | false => rfl
              | true => exact absurd ((q3 t).mp e) ms
            rw [sm]
            refine iteT ?_
            have cnt2 : (s ++ [u]).length + ord.length + 1 ≤ xss.length := by
              have := (Df.push hxk tn ms).count
              simp only [List.length_append, List.length_singleton] at this ⊢
              omega
            refine ⟨_, rfl, _, rfl, D, _, rfl, DPut.k (k := Sum.inl (t : Int)) q1' (small1000 (by omega)), ?_⟩
            have hS1 : (L2.upd (L2.upd H5 F (.lst (natV (fs ++ [kk + 1])))) D (.dK (putK kvs (Sum.inl (t : Int)) (.bl true)))) S = some (.lst (natV (s ++ [u]))) := by
              rw [upd_ne hDS.symm, upd_ne hSF]; exact hS
            refine ⟨_, rfl, .inl ⟨rfl, _, SqL.of hS1⟩, _, rfl, _, _, _, rfl, rfl, hS1, small1000 (by rw [natV_len]; omega), ?_⟩
            have hF1 : (L2.upd (L2.upd (L2.upd H5 F (.lst (natV (fs ++ [kk + 1])))) D (.dK (putK kvs (Sum.inl (t : Int)) (.bl true)))) S (.lst (natV (s ++ [u]) ++ [.int (t : Int)]))) F = some (.lst (natV (fs ++ [kk + 1]))) := by
              rw [upd_ne hSF.symm, upd_ne hDF.symm]; exact upd_same
            refine ⟨_, rfl, .inl ⟨rfl, _, SqL.of hF1⟩, _, _, _, rfl, rfl, hF1, small1000 (by
              have := Df.len
              simp only [natV_len, List.length_append, List.length_singleton] at cnt2 ⊢
              omega), ?_⟩
            refine ⟨_, ?_, ord, (s ++ [u]) ++ [t], (fs ++ [kk + 1]) ++ [0], _, _, rfl, rfl, Df.push hxk tn ms, ?_, ?_, ?_, ?_, ?_⟩
            · have l1 : ((s ++ [u]) ++ [t]).length = (s ++ [u]).length + 1 := by rw [List.length_append]; rfl
              rw [l1, cost_snoc, cost_snoc, cost_snoc]
              have := rowU.1
              obtain ⟨rest, hrest⟩ : ∃ r, xss.length - ((s ++ [u]).length + ord.length) = r + 1 := ⟨xss.length - ((s ++ [u]).length + ord.length) - 1, by omega⟩
              have e2 : xss.length - ((s ++ [u]).length + 1 + ord.length) = rest := by omega
              rw [hrest, e2, Nat.add_mul]
              omega
            · rw [upd_ne hOF, upd_ne hOS, upd_ne hOD, upd_ne hOF]; exact hO
            · rw [upd_ne hSF, upd_same, natV_snoc (s ++ [u])]
            · rw [upd_same, natV_snoc (fs ++ [kk + 1])]; rfl
            · refine ⟨putK kvs (Sum.inl (t : Int)) (.bl true), by rw [upd_ne hDF, upd_ne hDS, upd_same], ?_, fun x => ?_⟩
              · have := length_putK kvs (Sum.inl (t : Int)) (.bl true)
                simp only [List.length_append, List.length_singleton] at q2 ⊢
                omega
              · rw [valV_put]
                by_cases e : (Sum.inl (x : Int) : Key) = Sum.inl (t : Int)
                · have e' : x = t := by
                    have : (x : Int) = (t : Int) := by injection e
                    omega
                  rw [if_pos e, e']
                  simp
                · have e' : ¬ x = t := fun y => e (by rw [y])
                  rw [if_neg e, q3 x]
                  simp [e']
            · exact same_upd (same_upd (same_upd (same_upd s5 nF0) nD0) nS0) nF0
      · have h0 : stk = [] := by
          cases stk with
          | nil => rfl
          | cons a r => exact absurd (decide_eq_true (by rw [natV_len, List.length_cons]; omega)) z
        subst h0
        refine ⟨_, rfl, .inl ⟨rfl, _, SqL.of hO⟩, _, _, rfl, rfl, hO, _, rfl, k O _ ord.reverse (same_upd s5 nO) nO ?_ Df.fin⟩
        rw [upd_same]
        unfold natV
        rw [List.map_reverse]
    · rintro σ H Q Q' q ⟨v, e1, p, ys, e2, h1, i, j, e3, e4, k, e5, h⟩
      exact ⟨v, e1, p, ys, e2, h1, i, j, e3, e4, k, e5, q _ _ h⟩
/-! ### the tree of candidates in the heap -/
theorem OrdOk.rootIn {xss : List (List Int)} {root : Nat} {ord : List Nat} (O : OrdOk xss root ord) : root ∈ ord := List.mem_of_getElem? O.head
theorem idx_at {ord : List Nat} {v : Nat} (h : v ∈ ord) : ord[ord.idxOf v]? = some v := by
  have hl := List.idxOf_lt_length_of_mem h
  rw [List.getElem?_eq_getElem hl, List.getElem_idxOf hl]
theorem idx_inj {ord : List Nat} {u v : Nat} (hu : u ∈ ord) (hv : v ∈ ord) (e : ord.idxOf u = ord.idxOf v) : u = v := by
  have a := idx_at hu
  rw [e, idx_at hv] at a
  cases a
  rfl
theorem idx_of {ord : List Nat} (nd : ord.Nodup) {i v : Nat} (h : ord[i]? = some v) : ord.idxOf v = i := by
  have hi := (List.getElem?_eq_some_iff.mp h).1
  have a := idx_at (List.mem_of_getElem? h)
  exact (List.getElem?_inj (List.getElem?_eq_some_iff.mp a).1 nd).mp (a.trans h.symm)
def grOf {xss : List (List Int)} {root : Nat} {ord : List Nat} (O : OrdOk xss root ord) : Dm.Gr where
  n := xss.length
  E := fun u v => u ∈ ord ∧ (v : Int) ∈ xss.getD u []
  r := root
  pl := fun v => ord.idxOf v
  V := fun v => v ∈ ord
  Vn := fun h => O.lt _ h
  inj := fun hu hv e => idx_inj hu hv e
  rn := O.rootIn
  En := fun {u v} h => ⟨h.1, by have := O.closed u h.1 _ h.2; rw [Int.toNat_natCast] at this; exact this⟩
  r0 := fun {v} hv ne => by
    have e0 : ord.idxOf root = 0 := idx_of O.nd O.head
    have : ord.idxOf v ≠ 0 := fun e => by
      have a := idx_at hv
      rw [e, O.head] at a
      cases a
      exact ne rfl
    omega
def fv (f : Nat → Option Nat) (v : Nat) : Int := match f v with
  | some u => (u : Int)
  | none => -1
theorem fv_some {f : Nat → Option Nat} {v u : Nat} (h : f v = some u) : fv f v = (u : Int) := by unfold fv; rw [h]
theorem fv_none {f : Nat → Option Nat} {v : Nat} (h : f v = none) : fv f v = -1 := by unfold fv; rw [h]
def foundV (f : Nat → Option Nat) (n : Nat) : List V := (List.range n).map fun v => V.int (fv f v)
theorem foundV_at {f : Nat → Option Nat} {n v : Nat} (h : v < n) : (foundV f n)[v]? = some (.int (fv f v)) := by
  unfold foundV
  rw [List.getElem?_map, List.getElem?_range h]
  rfl
theorem foundV_len (f : Nat → Option Nat) (n : Nat) : (foundV f n).length = n := by unfold foundV; rw [List.length_map, List.length_range]
theorem foundV_set (f : Nat → Option Nat) (n v b : Nat) : (foundV f n).set v (.int (b : Int)) = foundV (Dm.set f v b) n := by
  refine List.ext_getElem? fun i => ?_
  by_cases hi : i < n
  · rw [foundV_at hi]
    by_cases z : i = v
    · subst z
      rw [List.getElem?_set_self (by rw [foundV_len]; exact hi), fv_some (Dm.set_at f i b)]
    · rw [List.getElem?_set_ne (fun e => z e.symm), foundV_at hi]
      unfold fv
      rw [Dm.set_ne z]
  · rw [List.getElem?_eq_none (by rw [List.length_set, foundV_len]; omega), List.getElem?_eq_none (by rw [foundV_len]; omega)]
/-- a dict of the places of the nodes -/
def Places (H : Hp) (a : Addr) (ord : List Nat) : Prop := ∃ kvs : List (Key × V), H a = some (.dK kvs) ∧ ∀ v ∈ ord, valV kvs (.inl (v : Int)) = some (.int ((ord.idxOf v : Nat) : Int))
theorem Places.same {H H' : Hp} {a : Addr} {ord : List Nat} (P : Places H a ord) (s : Same H H') : Places H' a ord := by
  obtain ⟨kvs, h, r⟩ := P
  exact ⟨kvs, s _ _ h, r⟩
def sp_meeting : Sp := fun vs H Q _ => ∃ (F P : Addr) (a b : Nat) (xss : List (List Int)) (root : Nat) (ord : List Nat) (O : OrdOk xss root ord) (f : Nat → Option Nat), vs = [.ref F, .ref P, .int (a : Int), .int (b : Int)] ∧
  H F = some (.lst (foundV f xss.length)) ∧ Places H P ord ∧ Dm.Tr (grOf O) f ∧ a ∈ ord ∧ b ∈ ord ∧ f a ≠ none ∧ f b ≠ none ∧
  ∀ c : Nat, Dm.Anc f a c → Dm.Anc f b c → (∀ d, Dm.Anc f a d → Dm.Anc f b d → Dm.Anc f c d) → Q (.int (c : Int)) H
theorem ok_meeting (T : Tx w K mg) : FnOk P w K mg base CX0 1 T.a_meeting T.d_meeting ["found", "place", "one", "other"] sp_meeting := by
  refine T.F_meeting.ok sc_meeting (fun vs H Q E h => ?_) (fun cdv A outer s H vs Q E hr h => ?_)
  · obtain ⟨F, P, a, b, xss, root, ord, O, f, rfl, _⟩ := h
    rfl
  · obtain ⟨F, P, a, b, xss, root, ord, O, f, rfl, hF, hP, Tf, ha, hb, fa, fb, k⟩ := h
    refine ⟨_, (pss_cons (ps_while PassesOwn.never (pt_cmpR op_ne (pv 2) (pv 3) (nomark _)) (pss_one (ps_if (pt_cmpR op_gt (pe_dget (hu_of hr) (pv 1) (pv 2) (fun _ _ => rfl)) (pe_dget (hu_of hr) (pv 1) (pv 3) (fun _ _ => rfl)) (nomark _)) (pss_one (ps_set (i := 2) sc_meeting.nd rfl (.inl rfl) (pe_ix ix_list (pv 0) (pv 2) (fun _ _ => rfl)))) (pss_one (ps_set (i := 3) sc_meeting.nd rfl (.inl rfl) (pe_ix ix_list (pv 0) (pv 3) (fun _ _ => rfl)))))))
      (pss_one (ps_ret (pv 2)))), ?_⟩
    obtain ⟨kvs, hP1, hP2⟩ := hP
    refine while_m (fun m σ H' => ∃ x y : Nat, σ = [some (.ref F), some (.ref P), some (.int (x : Int)), some (.int (y : Int))] ∧ m = ord.idxOf x + ord.idxOf y ∧ H' = H ∧ Dm.Anc f a x ∧ Dm.Anc f b y ∧ ∀ d, Dm.Anc f a d → Dm.Anc f b d → Dm.Anc f x d ∧ Dm.Anc f y d)
      ⟨_, a, b, rfl, rfl, rfl, .self _, .self _, fun d h1 h2 => ⟨h1, h2⟩⟩ ?_ ?_
    · rintro m σ H' ⟨x, y, rfl, rfl, rfl, ax, by', com⟩
      have hx : x ∈ ord := Tf.lt ax ha
      have hy : y ∈ ord := Tf.lt by' hb
      have gx := Tf.good ax fa
      have gy := Tf.good by' fb
      have rt : ∀ v, v ∈ ord → (grOf O).pl root ≤ (grOf O).pl v := fun v hv => by
        by_cases z : v = root
        · rw [z]; exact Nat.le_refl _
        · exact Nat.le_of_lt ((grOf O).r0 hv z)
      refine ⟨_, rfl, _, rfl, rfl, _, rfl, ?_⟩
      by_cases xy : x = y
      · rw [xy, decide_eq_true rfl]
        refine iteF ?_
        subst xy
        exact ⟨_, rfl, k x ax by' fun d h1 h2 => (com d h1 h2).1⟩
      · have ne : ¬ (V.int (x : Int) = V.int (y : Int)) := fun e => xy (by injection e with e; omega)
        rw [decide_eq_false ne]
        refine iteT ?_
        refine ⟨_, rfl, _, rfl, P, _, rfl, DGet.k (k := Sum.inl (x : Int)) hP1 |> (hP2 x hx ▸ ·), _, rfl, _, rfl, P, _, rfl, DGet.k (k := Sum.inl (y : Int)) hP1 |> (hP2 y hy ▸ ·), _, _, rfl, rfl, _, rfl, ?_⟩
        have step : ∀ z : Nat, z ∈ ord → f z ≠ none → z ≠ root → ∃ u, f z = some u ∧ (foundV f xss.length)[z]? = some (.int (u : Int)) ∧ (grOf O).pl u < (grOf O).pl z := fun z hz fz zr => by
          cases e : f z with
          | none => exact absurd e fz
          | some u => exact ⟨u, rfl, by rw [foundV_at (O.lt z hz), fv_some e], Tf.dec e zr⟩
        have plne : ord.idxOf x ≠ ord.idxOf y := fun e => xy (idx_inj hx hy e)
        by_cases gt : ((ord.idxOf y : Nat) : Int) < ((ord.idxOf x : Nat) : Int)
        · have xr : x ≠ root := fun e => by
            have q : ord.idxOf root ≤ ord.idxOf y := rt y hy
            rw [← e] at q
            omega
          obtain ⟨u, eu, iu, lu⟩ := step x hx gx xr
          rw [decide_eq_true gt]
          refine iteT ⟨_, rfl, _, rfl, _, _, _, _, rfl, rfl, SqL.of hF, atI_nat iu, ?_⟩
          refine ⟨_, ?_, u, y, rfl, rfl, rfl, ax.trans (.up eu (.self _)), by', fun d h1 h2 => ?_⟩
          · have : ord.idxOf u < ord.idxOf x := lu
            omega
          · obtain ⟨c1, c2⟩ := com d h1 h2
            refine ⟨Tf.up_of c1 (fun e => ?_) eu, c2⟩
            have : ord.idxOf d ≤ ord.idxOf y := Tf.le c2
            rw [← e] at this
            omega
        · have yr : y ≠ root := fun e => by
            have q : ord.idxOf root ≤ ord.idxOf x := rt x hx
            rw [← e] at q
            omega
          obtain ⟨u, eu, iu, lu⟩ := step y hy gy yr
          rw [decide_eq_false gt]
          refine iteF ⟨_, rfl, _, rfl, _, _, _, _, rfl, rfl, SqL.of hF, atI_nat iu, ?_⟩
          refine ⟨_, ?_, x, u, rfl, rfl, rfl, ax, by'.trans (.up eu (.self _)), fun d h1 h2 => ?_⟩
          · have : ord.idxOf u < ord.idxOf y := lu
            omega
          · obtain ⟨c1, c2⟩ := com d h1 h2
            refine ⟨c1, Tf.up_of c2 (fun e => ?_) eu⟩
            have : ord.idxOf d ≤ ord.idxOf x := Tf.le c1
            rw [← e] at this
            omega
    · rintro σ H Q Q' q ⟨v, e1, v2, e2, e3, k, e4, h⟩
      exact ⟨v, e1, v2, e2, e3, k, e4, q _ _ h⟩
/-! ### the immediate ones -/
open Dm in
/-- how often the nodes were looked at, within round k + 1 -/
def cI (ord : List Nat) (k i : Nat) : Nat → Nat := fun v => if ord.idxOf v < i then k + 1 else k
theorem cI_next {ord : List Nat} (nd : ord.Nodup) {k i n : Nat} (h : ord[i]? = some n) : (fun v => if v = n then k + 1 else cI ord k i v) = cI ord k (i + 1) := by
  funext v
  unfold cI
  have hi := idx_of nd h
  by_cases z : v = n
  · rw [if_pos z, z, hi, if_pos (by omega)]
  · rw [if_neg z]
    have ne : ord.idxOf v ≠ i := fun e => by
      by_cases m : v ∈ ord
      · have a := idx_at m
        rw [e, h] at a
        cases a
        exact z rfl
      · have := (List.getElem?_eq_some_iff.mp h).1
        rw [List.idxOf_eq_length m] at e
        omega
    by_cases y : ord.idxOf v < i
    · rw [if_pos y, if_pos (by omega)]
    · rw [if_neg y, if_neg (by omega)]
theorem cI_end {ord : List Nat} {k : Nat} {v : Nat} (m : v ∈ ord) : cI ord k ord.length v = k + 1 := if_pos (List.idxOf_lt_length_of_mem m)
section
variable {xss : List (List Int)} {root : Nat} {ord : List Nat} {O : OrdOk xss root ord}
def none0 : Nat → Option Nat := fun _ => none
theorem inv_start (O : OrdOk xss root ord) : Dm.Inv (grOf O) (Dm.set none0 root root) (fun _ => 0) := by
  have one : ∀ {v u}, Dm.set none0 root root v = some u → v = root ∧ u = root := fun {v u} e => by
    by_cases z : v = root
    · rw [z, Dm.set_at] at e
      cases e
      exact ⟨z, rfl⟩
    · rw [Dm.set_ne z] at e
      cases e
  refine ⟨⟨Dm.set_at _ _ _, fun {v u} e ne => absurd (one e).1 ne, fun {v u} e => ?_⟩, fun {v u} e ne => absurd (one e).1 ne, fun {v} hv d hd nav => ?_, fun v d k _ hk => absurd hk (Nat.not_lt_zero _), fun v _ h => absurd h (Nat.lt_irrefl _)⟩
  · obtain ⟨rfl, rfl⟩ := one e
    exact ⟨O.rootIn, O.rootIn, by rw [e]; intro x; cases x⟩
  · have : v = root := by
      by_cases z : v = root
      · exact z
      · exact absurd (Dm.set_ne z) hv
    subst this
    by_cases z : d = v
    · rw [z]; exact .self _
    · exact absurd ⟨fun e => z e.symm, .nil _⟩ nav
/-- the root counts as looked at -/
theorem inv_round {f : Nat → Option Nat} {k : Nat} (I : Dm.Inv (grOf O) f (fun _ => k)) : Dm.Inv (grOf O) f (cI ord k 1) := by
  have r0 : ∀ v, ord.idxOf v < 1 → v = root := fun v h => by
    have e : ord.idxOf v = 0 := by omega
    have hl : ord.length ≠ 0 := fun z => by
      have := O.head
      rw [List.length_eq_zero_iff.mp z] at this
      cases this
    have m : v ∈ ord := by
      by_cases m : v ∈ ord
      · exact m
      · rw [List.idxOf_eq_length m] at e
        exact absurd e hl
    have a := idx_at m
    rw [e, O.head] at a
    cases a
    rfl
  refine ⟨I.tr, I.way, I.dom, fun v d j h hj a => ?_, fun v hv h => ?_⟩
  · unfold cI at hj
    split at hj
    · rename_i z
      rw [r0 v z] at h a
      exact a.ne (I.tr.root_only h).symm
    · exact I.seen v d j h hj a
  · unfold cI at h
    split at h
    · rename_i z
      have er : f root = some root := I.tr.root
      rw [r0 v z, er]; intro x; cases x
    · exact I.full v hv h
theorem inv_same {f : Nat → Option Nat} {c c' : Nat → Nat} (I : Dm.Inv (grOf O) f c) (h : ∀ v, c' v ≤ c v) : Dm.Inv (grOf O) f c' :=
  ⟨I.tr, I.way, I.dom, fun v d j a hj => I.seen v d j a (Nat.lt_of_lt_of_le hj (h v)), fun v hv hc => I.full v hv (Nat.lt_of_lt_of_le hc (h v))⟩
theorem inv_end {f : Nat → Option Nat} {k : Nat} (I : Dm.Inv (grOf O) f (cI ord k ord.length)) : Dm.Inv (grOf O) f (fun _ => k + 1) := by
  have low : ∀ v, v ∉ ord → f v = none := fun v h => by
    cases e : f v with
    | none => rfl
    | some u => exact absurd (I.tr.tot e).1 h
  refine ⟨I.tr, I.way, I.dom, fun v d j h hj a => ?_, fun v hv hc => I.full v hv (by rw [cI_end hv]; omega)⟩
  by_cases m : v ∈ ord
  · exact I.seen v d j h (by rw [cI_end m]; exact hj) a
  · cases h with
    | self => exact a.ne rfl
    | up e _ => rw [low v m] at e; cases e
theorem set_self {f : Nat → Option Nat} {n b : Nat} (h : f n = some b) : Dm.set f n b = f := by
  funext v
  by_cases z : v = n
  · rw [z, Dm.set_at, h]
  · rw [Dm.set_ne z]
/-- origins as they should be -/
structure OrgOk (xss yss : List (List Int)) : Prop where
  len : yss.length = xss.length
  from_ : ∀ (v : Nat) (t : Int), t ∈ yss.getD v [] → ∃ u : Nat, t = (u : Int) ∧ u < xss.length ∧ (v : Int) ∈ xss.getD u []
  to : ∀ (u v : Nat), (v : Int) ∈ xss.getD u [] → (u : Int) ∈ yss.getD v []
/-- what is known of the best one among the first origins -/
structure Best (f : Nat → Option Nat) (ord : List Nat) (ts : List Int) (bo : Option Nat) : Prop where
  no : bo = none → ∀ u : Nat, (u : Int) ∈ ts → f u = none
  yes : ∀ b, bo = some b → b ∈ ord ∧ f b ≠ none ∧ (∀ u : Nat, (u : Int) ∈ ts → f u ≠ none → Dm.Anc f u b) ∧ ∀ d, (∀ u : Nat, (u : Int) ∈ ts → f u ≠ none → Dm.Anc f u d) → Dm.Anc f b d
def bV : Option Nat → Int
  | some b => (b : Int)
  | none => -1
theorem Best.start (f : Nat → Option Nat) (ord : List Nat) : Best f ord [] none := ⟨fun _ u m => (by cases m), fun b e => (by cases e)⟩
theorem Best.skip {f : Nat → Option Nat} {ts : List Int} {bo : Option Nat} {u : Nat} (B : Best f ord ts bo) (h : f u = none) : Best f ord (ts ++ [(u : Int)]) bo := by
  have old : ∀ x : Nat, (x : Int) ∈ ts ++ [(u : Int)] → f x ≠ none → (x : Int) ∈ ts := fun x m fx => by
    rcases List.mem_append.mp m with m | m
    · exact m
    · have : x = u := by have := List.mem_singleton.mp m; omega
      rw [this] at fx; exact absurd h fx
  refine ⟨fun e x m => ?_, fun b e => ?_⟩
  · rcases List.mem_append.mp m with m | m
    · exact B.no e x m
    · have : x = u := by have := List.mem_singleton.mp m; omega
      rw [this]; exact h
  · obtain ⟨b1, b2, b3, b4⟩ := B.yes b e
    exact ⟨b1, b2, fun x m fx => b3 x (old x m fx) fx, fun d hd => b4 d fun x m fx => hd x (List.mem_append_left _ m) fx⟩
theorem Best.first {f : Nat → Option Nat} {ts : List Int} {u : Nat} (B : Best f ord ts none) (hu : u ∈ ord) (h : f u ≠ none) : Best f ord (ts ++ [(u : Int)]) (some u) := by
  have only : ∀ x : Nat, (x : Int) ∈ ts ++ [(u : Int)] → f x ≠ none → x = u := fun x m fx => by
    rcases List.mem_append.mp m with m | m
    · exact absurd (B.no rfl x m) fx
    · have := List.mem_singleton.mp m; omega
  refine ⟨fun e => (by cases e), fun b e => ?_⟩
  cases e
  exact ⟨hu, h, fun x m fx => (by rw [only x m fx]; exact .self _), fun d hd => hd u (by simp) h⟩
theorem Best.meet {f : Nat → Option Nat} {ts : List Int} {u b c : Nat} (T : Dm.Tr (grOf O) f) (B : Best f ord ts (some b)) (hu : u ∈ ord) (h : f u ≠ none) (h1 : Dm.Anc f b c) (h2 : Dm.Anc f u c) (h3 : ∀ d, Dm.Anc f b d → Dm.Anc f u d → Dm.Anc f c d) : Best f ord (ts ++ [(u : Int)]) (some c) := by
  obtain ⟨b1, b2, b3, b4⟩ := B.yes b rfl
  refine ⟨fun e => (by cases e), fun x e => ?_⟩
  cases e
  refine ⟨T.lt h1 b1, T.good h1 b2, fun x m fx => ?_, fun d hd => ?_⟩
  · rcases List.mem_append.mp m with m | m
    · exact (b3 x m fx).trans h1
    · have : x = u := by have := List.mem_singleton.mp m; omega
      rw [this]; exact h2
  · exact h3 d (b4 d fun x m fx => hd x (List.mem_append_left _ m) fx) (hd u (by simp) h)
/-- all origins done: the nearest one -/
theorem Best.near {f : Nat → Option Nat} {yss : List (List Int)} {k i n : Nat} (OO : OrgOk xss yss) (I : Dm.Inv (grOf O) f (cI ord k i)) (hi : 1 ≤ i) (hn : ord[i]? = some n) {bo : Option Nat} (B : Best f ord (yss.getD n []) bo) :
    ∃ b, bo = some b ∧ Dm.Near (grOf O) f n b := by
  have nr : n ≠ root := fun e => by
    have a := idx_of O.nd hn
    rw [e, idx_of O.nd O.head] at a
    omega
  have hin := idx_of O.nd hn
  obtain ⟨j, u, hj, eu, hu⟩ := O.par i n hn nr
  have uo : u ∈ ord := List.mem_of_getElem? eu
  have fu : f u ≠ none := I.full u uo (by unfold cI; rw [idx_of O.nd eu, if_pos hj]; omega)
  have um : (u : Int) ∈ yss.getD n [] := OO.to u n hu
  cases bo with
  | none => exact absurd (B.no rfl u um) fu
  | some b =>
    obtain ⟨b1, b2, b3, b4⟩ := B.yes b rfl
    refine ⟨b, rfl, ⟨u, ⟨uo, hu⟩, fu, ?_⟩, fun p ep fp => b3 p (OO.to p n ep.2) fp, fun d hd => b4 d fun x m fx => ?_⟩
    · show ord.idxOf u < ord.idxOf n
      rw [idx_of O.nd eu, hin]; exact hj
    · obtain ⟨y, ey, _, hy⟩ := OO.from_ n x m
      have : x = y := by omega
      subst this
      exact hd x ⟨by
        cases e : f x with
        | none => exact absurd e fx
        | some z => exact (I.tr.tot e).1, hy⟩ fx
/-- one node more in a round -/
theorem inv_step {f : Nat → Option Nat} {yss : List (List Int)} {k i n b : Nat} (I : Dm.Inv (grOf O) f (cI ord k i)) (hi : 1 ≤ i) (hn : ord[i]? = some n) (N : Dm.Near (grOf O) f n b) : Dm.Inv (grOf O) (Dm.set f n b) (cI ord k (i + 1)) := by
  have nr : n ≠ root := fun e => by
    have a := idx_of O.nd hn
    rw [e, idx_of O.nd O.head] at a
    omega
  have hin := idx_of O.nd hn
  have := I.upd (n := n) (b := b) (k := k + 1) (List.mem_of_getElem? hn) nr N (fun v => by unfold cI; split <;> omega) (fun u _ hu => by
    have : ord.idxOf u < ord.idxOf n := hu
    unfold cI
    rw [if_pos (by omega)]
    exact Nat.le_refl _) (fun u _ => by unfold cI; split <;> omega)
  rw [cI_next O.nd hn] at this
  exact this
end
theorem ixN_at {n j : Nat} (h : j < n) : ixN n (j : Int) = some j := by
  unfold ixN
  rw [if_pos (by omega), if_pos (by omega)]
  simp
theorem cutTail (xs : List V) : cutV xs (some (1 : Int)) none = xs.drop 1 := by
  unfold cutV
  rw [show (1 : Int) = ((1 : Nat) : Int) from rfl, HT.sIx_nat, HT.sIx_none]
  cases xs with
  | nil => rfl
  | cons x r => rw [List.length_cons, Nat.min_eq_left (by omega), List.take_of_length_le (by rw [List.length_drop, List.length_cons]; omega)]
abbrev WIm {xss : List (List Int)} {root : Nat} {ord : List Nat} (wa OA PA FA : Addr) (ov : V) (H : Hp) (O : OrdOk xss root ord) (M : Nat) : Nat → L2.St → Hp → Prop := fun m σ H' => ∃ (kp : Nat) (f : Nat → Option Nat) (ch : Bool) (y4 y8 y9 : Option V), σ = [some (.int (root : Int)), some (.ref wa), some ov, some (.ref OA), y4, some (.ref PA), some (.ref FA), some (.bl ch), y8, y9, none, none] ∧
        m = (if ch = true then M + 2 - kp else 0) ∧ (ch = true → kp ≤ M + 1) ∧ Dm.Inv (grOf O) f (fun _ => kp) ∧ (ch = false → ∀ v, v ∈ ord → v ≠ root → ∃ b, f v = some b ∧ Dm.Near (grOf O) f v b) ∧ Same H H' ∧ H' OA = some (.lst (natV ord)) ∧ Places H' PA ord ∧ H' FA = some (.lst (foundV f xss.length))
def sp_immediate (K : PySem.W.Frag) : Sp := fun vs H Q _ => ∃ (root : Nat) (wv ov : V) (xss yss : List (List Int)), vs = [.int (root : Int), wv, ov] ∧ Dp K H wv (rowsD xss) ∧ Dp K H ov (rowsD yss) ∧ WaysIn xss ∧ WaysIn yss ∧ root < xss.length ∧ OrgOk xss yss ∧
  ∀ F H' ord (O : OrdOk xss root ord) (f : Nat → Option Nat), Same H H' → H F = none → Dm.Tr (grOf O) f → (∀ v ∈ ord, f v ≠ none) → (∀ v ∈ ord, ∀ d ∈ ord, Dm.Anc f v d ↔ ¬ Dm.Avoid (grOf O) d v) → H' F = some (.lst ((foundV f xss.length).set root (.int (-1)))) → Q (.ref F) H'
theorem ok_immediate_ones (T : Tx w K mg) : FnOk P w K mg base CX0 2 T.a_immediate_ones T.d_immediate_ones ["root", "ways", "origins"] (sp_immediate K) := by
  refine T.F_immediate_ones.ok sc_immediate_ones (fun vs H Q E h => ?_) (fun cdv A outer s H vs Q E hr h => ?_)
  · obtain ⟨root, wv, ov, xss, yss, rfl, _⟩ := h
    rfl
  · obtain ⟨root, wv, ov, xss, yss, rfl, dw, do_, WX, WY, hroot, OO, k⟩ := h
    refine ⟨_, (pss_cons (ps_set (i := 3) sc_immediate_ones.nd rfl (.inl rfl) (pe_call (ok_outward_order T) (hr.mono (by decide)) (by rfl) T.g_outward_order T.F_outward_order.kp T.b_outward_order .nil pass0 (pa_cons (pv 0) (pa_cons (pv 1) pa_nil))))
      (pss_cons (ps_setDc (i := 5) (own := [("index", 10), ("node", 4)]) (g := gTup K 2 (gCons (gName 10) (gCons (gName 4) gNil))) (tt := tYes) rfl sc_immediate_ones.nd rfl rfl (swd_true rfl rfl rfl (by decide +kernel)) (pi_enum (by rfl) T.z_enumerate (pa_cons (pv 3) pa_nil)) (blkOk_by (N := ["root", "ways", "origins", "order", "node", "place", "found", "changed", "best", "origin", "index", "_"]) (sc := defScope s_immediate_ones) (by decide +kernel)) (fun _ _ _ _ _ => (pg_tup rfl (pgs_cons (pg_name (i := 10) sc_immediate_ones.nd rfl (.inl rfl)) (pgs_cons (pg_name (i := 4) sc_immediate_ones.nd rfl (.inl rfl)) pgs_nil)))) (fun _ _ _ _ _ => pts_nil) (fun _ _ _ _ _ => (pv 4)) (fun _ _ _ _ _ => (pv 10)))
      (pss_cons (ps_setLc (i := 6) (own := [("_", 11)]) (g := gName 11) (tt := tYes) rfl sc_immediate_ones.nd rfl rfl (sw_true rfl rfl rfl (by decide +kernel)) (pi_list (pv 1)) (blkOk_by (N := ["root", "ways", "origins", "order", "node", "place", "found", "changed", "best", "origin", "index", "_"]) (sc := defScope s_immediate_ones) (by decide +kernel)) (fun _ _ _ _ _ => (pg_name (i := 11) sc_immediate_ones.nd rfl (.inl rfl))) (fun _ _ _ _ _ => pts_nil) (fun _ _ _ _ _ => (pe_gq (by rfl) T.q_NO_NODE)))
      (pss_cons (ps_asg (pv 0) (pg_sub (pv 6) (pv 0) set_list))
      (pss_cons (ps_set (i := 7) sc_immediate_ones.nd rfl (.inl rfl) pe_bl)
      (pss_cons (ps_while PassesOwn.never (pt_val (pv 7)) (pss_cons (ps_set (i := 7) sc_immediate_ones.nd rfl (.inl rfl) pe_bl)
      (pss_one (ps_for PassesOwn.never rfl (pi_list (pe_slice sl_list (pv 3) (po_some pe_int) po_none)) (pg_name (i := 4) sc_immediate_ones.nd rfl (.inl rfl)) (pss_cons (ps_set (i := 8) sc_immediate_ones.nd rfl (.inl rfl) (pe_gq (by rfl) T.q_NO_NODE))
      (pss_cons (ps_for PassesOwn.never rfl (pi_list (pe_ix ix_list (pv 2) (pv 4) (fun _ _ => rfl))) (pg_name (i := 9) sc_immediate_ones.nd rfl (.inl rfl)) (pss_one (ps_if (pt_cmpR op_ne (pe_ix ix_list (pv 6) (pv 9) (fun _ _ => rfl)) (pe_gq (by rfl) T.q_NO_NODE) (nomark _)) (pss_one (ps_set (i := 8) sc_immediate_ones.nd rfl (.inl rfl) (pe_ifExp (pt_cmpR op_eq (pv 8) (pe_gq (by rfl) T.q_NO_NODE) (nomark _)) (pv 9) (pe_call (ok_meeting T) (hr.mono (by decide)) (by rfl) T.g_meeting T.F_meeting.kp T.b_meeting .nil pass0 (pa_cons (pv 6) (pa_cons (pv 5) (pa_cons (pv 8) (pa_cons (pv 9) pa_nil)))))))) pss_nil)))
      (pss_one (ps_if (pt_cmpR op_ne (pe_ix ix_list (pv 6) (pv 4) (fun _ _ => rfl)) (pv 8) (nomark _)) (pss_cons (ps_asg (pv 8) (pg_sub (pv 6) (pv 4) set_list))
      (pss_one (ps_set (i := 7) sc_immediate_ones.nd rfl (.inl rfl) pe_bl))) pss_nil))))))))
      (pss_cons (ps_asg (pe_gq (by rfl) T.q_NO_NODE) (pg_sub (pv 6) (pv 0) set_list))
      (pss_one (ps_ret (pv 6)))))))))), ?_⟩
    refine ⟨_, rfl, _, rfl, root, wv, xss, rfl, dw, WX, hroot, fun OA H1 ord s1 nO hO O => ?_⟩
    have ordl : ord.length ≤ xss.length := few_below _ _ O.nd O.lt
    have few := WX.few
    -- the places
    refine ⟨_, rfl, _, _, rfl, SqL.of hO, fun PA nP => ?_⟩
    refine dc_it walk_enum (fun i H' => Same H1 H' ∧ ∃ kvs : List (Key × V), H' PA = some (.dK kvs) ∧ kvs.length ≤ i ∧ ∀ j v, j < i → ord[j]? = some v → valV kvs (.inl (v : Int)) = some (.int (j : Int)))
      ⟨same_new5 nP, [], upd_same, Nat.zero_le _, fun j v h => absurd h (Nat.not_lt_zero _)⟩ (fun i H' _ h => SqL.of (h.1 _ _ hO)) ?_ ?_
    · rintro i x H2 H3 hi ⟨s2, kvs, hP, hl, hk⟩ ⟨t, u, z, rfl, nt, rfl, hu, hz⟩
      cases hu
      rw [natV_len] at hi
      have hz' : (natV ord)[i]? = some z := hz
      unfold natV at hz'
      rw [List.getElem?_map, List.getElem?_eq_getElem hi] at hz'
      cases hz'
      have hPt : PA ≠ t := fun e => by rw [e, nt] at hP; cases hP
      refine ⟨_, _, rfl, SqT.of upd_same, rfl, _, _, rfl, _, _, rfl, rfl, rfl, _, rfl, _, rfl, kvs, .inl ((ord[i] : Nat) : Int), rfl, (by rw [upd_ne hPt]; exact hP), small1000 (by omega), same_upd (s2.trans (same_new5 nt)) nP, putK kvs (.inl ((ord[i] : Nat) : Int)) (.int (i : Int)), upd_same, ?_, fun j v hj hv => ?_⟩
      · have := length_putK kvs (.inl ((ord[i] : Nat) : Int)) (.int (i : Int)); omega
      · rw [valV_put]
        by_cases e : j = i
        · subst e
          rw [List.getElem?_eq_getElem hi] at hv
          cases hv
          rw [if_pos rfl]
        · have ne : ¬ ((Sum.inl (v : Int) : Key) = Sum.inl ((ord[i] : Nat) : Int)) := fun y => by
            have : (v : Int) = ((ord[i] : Nat) : Int) := by injection y
            have vi : v = ord[i] := by omega
            rw [vi] at hv
            have := (List.getElem?_inj (List.getElem?_eq_some_iff.mp hv).1 O.nd).mp (hv.trans (List.getElem?_eq_getElem hi).symm)
            exact e this
          rw [if_neg ne]
          exact hk j v (by omega) hv
    rintro H2 ⟨s2, kvs, hP, _, hk⟩
    rw [natV_len] at hk
    have PL : Places H2 PA ord := ⟨kvs, hP, fun v hv => hk _ v (List.idxOf_lt_length_of_mem hv) (idx_at hv)⟩
    have hO2 := s2 _ _ hO
    -- found
    obtain ⟨wa, wus, ew, w1, w2⟩ := Dp.lstInv (dw.same (s1.trans s2))
    subst ew
    have wl := w2.len
    rw [List.length_map] at wl
    refine ⟨_, rfl, _, rfl, ⟨_, w1⟩, fun FA nF => ?_⟩
    refine lc_list (K := K) (a := wa) (xs := wus) (fun i H' => Same H2 H' ∧ H' FA = some (.lst (List.replicate i (.int (-1)))))
      ⟨same_new5 nF, upd_same⟩ (fun i H' _ h => (h.1.seq w1)) ?_ ?_
    · rintro i x H3 hx ⟨s3, hF⟩
      have hi := (List.getElem?_eq_some_iff.mp hx).1
      refine ⟨rfl, _, hF, small1000 (by rw [List.length_replicate]; omega), same_upd s3 nF, ?_⟩
      rw [upd_same, List.replicate_succ']
    rintro H3 ⟨s3, hF⟩
    rw [wl] at hF
    have f0 : List.replicate xss.length (V.int (-1)) = foundV none0 xss.length := by
      refine List.ext_getElem? fun i => ?_
      by_cases hi : i < xss.length
      · rw [foundV_at hi, List.getElem?_replicate, if_pos hi]; rfl
      · rw [List.getElem?_eq_none (by rw [List.length_replicate]; omega), List.getElem?_eq_none (by rw [foundV_len]; omega)]
    rw [f0] at hF
    have nF1 := none_of s2 nF
    have nF0 := none_of s1 nF1
    have hOF : OA ≠ FA := fun e => by rw [e] at hO2; rw [hO2] at nF; cases nF
    have hPF : PA ≠ FA := fun e => by rw [e] at hP; rw [hP] at nF; cases nF
    refine ⟨_, rfl, _, rfl, _, rfl, FA, _, _, root, rfl, rfl, hF, (by rw [foundV_len]; exact ixN_at hroot), ?_⟩
    rw [foundV_set]
    obtain ⟨M, hM⟩ := Dm.enough (grOf O)
    have s13 := (s1.trans s2).trans s3
    have fixed : ∀ {H4 : Hp} {o : HO}, Same H H4 → Same H (L2.upd H4 FA o) := fun s => same_upd s nF0
    refine while_m (WIm wa OA PA FA ov H O M)
      ⟨_, 0, _, true, none, none, none, rfl, rfl, fun _ => Nat.zero_le _, inv_start O, fun h => (by cases h), fixed s13, by rw [upd_ne hOF]; exact s3 _ _ hO2, ⟨kvs, by rw [upd_ne hPF]; exact s3 _ _ hP, PL.choose_spec.2 |> fun _ => by
        obtain ⟨kv2, q1, q2⟩ := PL
        rw [hP] at q1
        cases q1
        exact q2⟩, upd_same⟩ ?_ ?_
    · rintro m σ H5 ⟨kp, f0, ch, y4, y8, y9, rfl, rfl, hkp, I0, fix0, s5, hO5, P5, hF5⟩
      refine ⟨_, rfl, ch, rfl, ?_⟩
      cases ch with
      | false =>
        refine iteF ?_
        refine ⟨_, rfl, _, rfl, FA, _, _, root, rfl, rfl, hF5, (by rw [foundV_len]; exact ixN_at hroot), _, rfl, ?_⟩
        refine k FA _ ord O f0 (fixed s5) nF0 I0.tr (fun v hv => ?_) (fun v hv d hd => ⟨fun a => I0.exact (fix0 rfl) a, fun na => I0.dom ?_ d hd na⟩) upd_same
        all_goals
          by_cases z : v = root
          · have er : f0 root = some root := I0.tr.root
            rw [z, er]; intro x; cases x
          · obtain ⟨b, e, _⟩ := fix0 rfl v hv z
            rw [e]; intro x; cases x
      | true =>
        refine iteT ?_
        have kM := hkp rfl
        refine ⟨_, rfl, 1, rfl, ?_⟩
        dsimp only [tNoPart]
        refine ⟨OA, _, rfl, SqL.of hO5, fun SA nS => ?_⟩
        rw [cutTail]
        have s6 := same_new5 (o := .lst ((natV ord).drop 1)) nS
        have hS6 : L2.upd H5 SA (.lst ((natV ord).drop 1)) SA = some (.lst ((natV ord).drop 1)) := upd_same
        have hSF : SA ≠ FA := fun e => by rw [e, hF5] at nS; cases nS
        have s06 := s5.trans s6
        have hO6 := s6 _ _ hO5
        have P6 := P5.same s6
        have hF6 := s6 _ _ hF5
        generalize L2.upd H5 SA (.lst ((natV ord).drop 1)) = H6 at hS6 s06 hO6 P6 hF6 ⊢
        refine ⟨SA, rfl, ⟨_, SqL.of hS6⟩, for_list (K := K) (a := SA) (xs := (natV ord).drop 1) (D := { nx := fun σ' H' => ∃ m', m' < (if true = true then M + 2 - kp else 0) ∧ WIm wa OA PA FA ov H O M m' σ' H', rt := Q }) (fun i σ H' => ∃ (f : Nat → Option Nat) (ch : Bool) (y4 y8 y9 : Option V), σ = [some (.int (root : Int)), some (.ref wa), some ov, some (.ref OA), y4, some (.ref PA), some (.ref FA), some (.bl ch), y8, y9, none, none] ∧
            Dm.Inv (grOf O) f (cI ord kp (i + 1)) ∧ (ch = false → f = f0 ∧ ∀ j v, 1 ≤ j → j < i + 1 → ord[j]? = some v → ∃ b, f0 v = some b ∧ Dm.Near (grOf O) f0 v b) ∧ (M < kp → ch = false) ∧ Same H H' ∧ H' OA = some (.lst (natV ord)) ∧ Places H' PA ord ∧ H' FA = some (.lst (foundV f xss.length)) ∧ H' SA = some (.lst ((natV ord).drop 1)))
          ⟨f0, false, y4, y8, y9, rfl, inv_round I0, fun _ => ⟨rfl, fun j v h1 h2 => (by omega)⟩, fun _ => rfl, s06, hO6, P6, hF6, hS6⟩ (fun i σ H' _ ⟨_, _, _, _, _, _, _, _, _, _, _, _, _, h⟩ => SqL.of h) ?_ ?_⟩
        · rintro i x σ H7 hx ⟨f, ch, y4, y8, y9, rfl, I, fixc, hMk, s7, hO7, P7, hF7, hS7⟩
          rw [List.getElem?_drop] at hx
          unfold natV at hx
          rw [List.getElem?_map] at hx
          cases hn : ord[1 + i]? with
          | none => rw [hn] at hx; cases hx
          | some n =>
          rw [hn] at hx
          cases hx
          have hn' : ord[i + 1]? = some n := by rw [← hn, Nat.add_comm]
          have no : n ∈ ord := List.mem_of_getElem? hn
          have nx : n < xss.length := O.lt n no
          obtain ⟨oa, ous, ob, eo, o1, o2, o3⟩ := rows_item (do_.same s7) (by rw [OO.len]; exact nx)
          subst eo
          generalize hY : yss.getD n [] = ys at o3
          refine ⟨_, rfl, _, rfl, _, _, _, _, rfl, rfl, o1, o2, ob, rfl, ⟨_, o3⟩, for_list (K := K) (a := ob) (xs := ys.map V.int) (fun j σ H' => ∃ (bo : Option Nat) (y9 : Option V), σ = [some (.int (root : Int)), some (.ref wa), some (.ref oa), some (.ref OA), some (.int (n : Int)), some (.ref PA), some (.ref FA), some (.bl ch), some (.int (bV bo)), y9, none, none] ∧ H' = H7 ∧ Best f ord (ys.take j) bo)
            ⟨none, y9, rfl, rfl, by rw [List.take_zero]; exact Best.start f ord⟩ (fun j σ H' _ ⟨_, _, _, h, _⟩ => by rw [h]; exact o3) ?_ ?_⟩
          · rintro j x σ H8 hx ⟨bo, y9, rfl, rfl, B⟩
            rw [List.getElem?_map] at hx
            cases hj : ys[j]? with
            | none => rw [hj] at hx; cases hx
            | some t =>
            rw [hj] at hx
            cases hx
            obtain ⟨u, rfl, ux, uE⟩ := OO.from_ n t (by rw [hY]; exact List.mem_of_getElem? hj)
            have tk : ys.take (j + 1) = ys.take j ++ [(u : Int)] := by rw [List.take_succ, hj]; rfl
            refine ⟨_, rfl, _, rfl, _, _, _, _, rfl, rfl, SqL.of hF7, atI_nat (foundV_at ux), rfl, _, rfl, ?_⟩
            cases fu : f u with
            | none =>
              rw [fv_none fu, decide_eq_true rfl]
              refine iteF ⟨bo, _, rfl, rfl, by rw [tk]; exact B.skip fu⟩
            | some z =>
              have fun_ : f u ≠ none := by rw [fu]; intro x; cases x
              have uo : u ∈ ord := (I.tr.tot fu).1
              rw [fv_some fu, decide_eq_false (fun e => by injection e with e; omega)]
              refine iteT ?_
              cases bo with
              | none =>
                refine ⟨_, rfl, rfl, _, rfl, ite2 (fun _ => ?_) (fun w => absurd rfl w)⟩
                exact ⟨_, rfl, some u, _, rfl, rfl, by rw [tk]; exact B.first uo fun_⟩
              | some b =>
                refine ⟨_, rfl, rfl, _, rfl, ite2 (fun w => ?_) (fun _ => ?_)⟩
                · have := of_decide_eq_true w
                  injection this with this
                  have : (b : Int) = -1 := this
                  omega
                · obtain ⟨b1, b2, _, _⟩ := B.yes b rfl
                  refine ⟨_, rfl, _, rfl, _, rfl, _, rfl, FA, PA, b, u, xss, root, ord, O, f, rfl, hF7, P7, I.tr, b1, uo, b2, fun_, fun c c1 c2 c3 => ⟨some c, _, rfl, rfl, by rw [tk]; exact B.meet I.tr uo fun_ c1 c2 c3⟩⟩
          · rintro σ H8 ⟨bo, y9, rfl, rfl, B⟩
            rw [List.length_map, List.take_length, ← hY] at B
            obtain ⟨b, rfl, N⟩ := B.near OO I (by omega) hn'
            have I' := inv_step (yss := yss) I (by omega) hn' N
            refine ⟨_, rfl, _, rfl, _, _, _, _, rfl, rfl, SqL.of hF7, atI_nat (foundV_at nx), _, rfl, rfl, _, rfl, ?_⟩
            by_cases same : f n = some b
            · rw [fv_some same]
              show (if (!decide (V.int (b : Int) = V.int (b : Int))) = true then _ else _)
              rw [decide_eq_true rfl]
              refine iteF ?_
              rw [set_self same] at I'
              refine ⟨f, ch, _, _, _, rfl, I', fun hc => ?_, hMk, s7, hO7, P7, hF7, hS7⟩
              obtain ⟨e1, e2⟩ := fixc hc
              refine ⟨e1, fun j v h1 h2 hv => ?_⟩
              by_cases ji : j = i + 1
              · rw [ji, hn'] at hv
                cases hv
                rw [e1] at same N
                exact ⟨b, same, N⟩
              · exact e2 j v h1 (by omega) hv
            · have ne : ¬ (V.int (fv f n) = V.int (b : Int)) := fun e => same (by
                injection e with e
                cases fn : f n with
                | none => rw [fv_none fn] at e; omega
                | some z =>
                  rw [fv_some fn] at e
                  have : z = b := by omega
                  rw [this])
              show (if (!decide (V.int (fv f n) = V.int (b : Int))) = true then _ else _)
              rw [decide_eq_false ne]
              refine iteT ?_
              refine ⟨_, rfl, _, rfl, _, rfl, FA, _, _, n, rfl, rfl, hF7, (by rw [foundV_len]; exact ixN_at nx), ?_⟩
              have e0 : (foundV f xss.length).set n (.int (bV (some b))) = foundV (Dm.set f n b) xss.length := foundV_set f _ n b
              rw [e0]
              refine ⟨_, true, _, _, _, rfl, I', fun hc => (by cases hc), fun hk => ?_, fixed s7, by rw [upd_ne hOF]; exact hO7, ?_, upd_same, by rw [upd_ne hSF]; exact hS7⟩
              · exfalso
                have nr : n ≠ root := fun e => by
                  have a := idx_of O.nd hn'
                  rw [e, idx_of O.nd O.head] at a
                  omega
                exact same (I.still hM (fun v _ _ => by unfold cI; split <;> omega) no nr N)
              · obtain ⟨kv2, q1, q2⟩ := P7
                exact ⟨kv2, by rw [upd_ne hPF]; exact q1, q2⟩
        · rintro σ H7 ⟨f, ch, y4, y8, y9, rfl, I, fixc, hMk, s7, hO7, P7, hF7, hS7⟩
          have lo : 1 ≤ ord.length := by
            have := (List.getElem?_eq_some_iff.mp O.head).1
            omega
          have el : ((natV ord).drop 1).length + 1 = ord.length := by rw [List.length_drop, natV_len]; omega
          rw [el] at I fixc
          refine ⟨_, ?_, kp + 1, f, ch, _, _, _, rfl, rfl, fun hc => ?_, inv_end I, fun hc v hv vr => ?_, s7, hO7, P7, hF7⟩
          · rw [if_pos rfl]
            cases ch with
            | true =>
              have : ¬ M < kp := fun h => by have := hMk h; cases this
              rw [if_pos rfl]; omega
            | false => rw [if_neg Bool.false_ne_true]; omega
          · have : ¬ M < kp := fun h => by have := hMk h; rw [hc] at this; cases this
            omega
          · obtain ⟨e1, e2⟩ := fixc hc
            rw [e1]
            have := List.idxOf_lt_length_of_mem hv
            refine e2 (ord.idxOf v) v (Nat.one_le_iff_ne_zero.mpr fun z => vr ?_) this (idx_at hv)
            have a := idx_at hv
            rw [z, O.head] at a
            cases a
            rfl
    · rintro σ H Q Q' q ⟨v, e1, k, e2, h⟩
      exact ⟨v, e1, k, e2, q _ _ h⟩
/-- what is known of a flow graph's ways -/
structure FlowWays (xss : List (List Int)) : Prop where
  ok : WaysOk xss
  pos : 0 < xss.length
  par : ∀ m : Nat, 1 ≤ m → m < xss.length → ∃ k : Nat, k < m ∧ (m : Int) ∈ xss.getD k []
  small : xss.length ≤ 400
theorem Flow.flowWays {most waits many : Int} {ps ss nodes es : List PyData} (F : Flow most waits ps ss many nodes es) (h : most ≤ 99) : FlowWays (es.map tgts) := by
  have hl : (es.map tgts).length = nodes.length := by rw [List.length_map, F.len]
  refine ⟨F.ways h, by rw [hl]; exact F.pos, fun m h1 h2 => ?_, by rw [hl]; have := F.most; omega⟩
  obtain ⟨k, e, hk, he, hm⟩ := F.ends.2.2 m h1 (by omega)
  exact ⟨k, hk, by rw [List.getD_eq_getElem?_getD, List.getElem?_map, he]; exact hm⟩
theorem FlowWays.waysIn {xss : List (List Int)} (F : FlowWays xss) : WaysIn xss := ⟨F.ok.lt, by have := F.small; omega, fun xs m => Nat.le_trans (F.ok.two xs m) (by decide)⟩
theorem comes_at {xss : List (List Int)} {b : Nat} (h : b < xss.length) : (comes xss).getD b [] = ((List.range xss.length).filter fun a => decide (((b : Nat) : Int) ∈ xss.getD a [])).map Int.ofNat := by
  unfold comes
  rw [List.getD_eq_getElem?_getD, List.getElem?_map, List.getElem?_range h]
  rfl
theorem comes_len (xss : List (List Int)) : (comes xss).length = xss.length := by unfold comes; rw [List.length_map, List.length_range]
theorem FlowWays.comesIn {xss : List (List Int)} (F : FlowWays xss) : WaysIn (comes xss) := by
  refine ⟨fun xs m t ht => ?_, by rw [comes_len]; have := F.small; omega, fun xs m => ?_⟩
  all_goals obtain ⟨b, hb, rfl⟩ := List.mem_map.mp m
  · obtain ⟨k, hk, rfl⟩ := List.mem_map.mp ht
    have := List.mem_range.mp (List.mem_filter.mp hk).1
    rw [comes_len]
    exact ⟨Int.natCast_nonneg k, by show (k : Int) < _; omega⟩
  · rw [List.length_map]
    exact Nat.le_trans (List.length_filter_le _ _) (by rw [List.length_range]; have := F.small; omega)
theorem getD_lt {xss : List (List Int)} {u : Nat} {t : Int} (h : t ∈ xss.getD u []) : u < xss.length := by
  rw [List.getD_eq_getElem?_getD] at h
  by_cases z : u < xss.length
  · exact z
  · rw [List.getElem?_eq_none (by omega)] at h
    cases h
theorem FlowWays.org {xss : List (List Int)} (F : FlowWays xss) : OrgOk xss (comes xss) := by
  refine ⟨comes_len xss, fun v t ht => ?_, fun u v hv => ?_⟩
  · have hv := getD_lt ht
    rw [comes_len] at hv
    rw [comes_at hv] at ht
    obtain ⟨k, hk, rfl⟩ := List.mem_map.mp ht
    have := List.mem_filter.mp hk
    exact ⟨k, rfl, List.mem_range.mp this.1, of_decide_eq_true this.2⟩
  · have hu := getD_lt hv
    have hv2 := (F.waysIn.row u).2 _ hv
    rw [comes_at (by omega)]
    exact List.mem_map.mpr ⟨u, List.mem_filter.mpr ⟨List.mem_range.mpr hu, decide_eq_true hv⟩, rfl⟩
theorem FlowWays.all {xss : List (List Int)} (F : FlowWays xss) {ord : List Nat} (O : OrdOk xss 0 ord) : ∀ v, v < xss.length → v ∈ ord := by
  intro v
  induction v using Nat.strongRecOn with
  | ind v ih =>
    intro hv
    by_cases z : v = 0
    · rw [z]; exact O.rootIn
    · obtain ⟨k, hk, m⟩ := F.par v (by omega) hv
      have := O.closed k (ih k hk (by omega)) _ m
      rw [Int.toNat_natCast] at this
      exact this
/-! ### the law's own reach -/
inductive Rch (xss : List (List Int)) (w : Int) (st : List Int) : Nat → Prop
  | start {v : Nat} : (v : Int) ∈ st → (v : Int) ≠ w → Rch xss w st v
  | step {u v : Nat} : Rch xss w st u → (v : Int) ∈ xss.getD u [] → (v : Int) ≠ w → Rch xss w st v
/-! ### lists of dicts of nodes -/
def kN (b : Nat) : Key := Sum.inl ((b : Nat) : Int)
theorem kN_inj {a b : Nat} (h : kN a = kN b) : a = b := by
  have : (a : Int) = (b : Int) := by injection h
  omega
def DcOk (H : Hp) (d : Addr) (n : Nat) (S : Nat → Prop) : Prop := ∃ (kvs : List (Key × V)) (ks : List Nat), H d = some (.dK kvs) ∧ kvs.map (·.1) = ks.map kN ∧ ks.Nodup ∧ (∀ b ∈ ks, b < n) ∧ ∀ b, b ∈ ks ↔ S b
theorem mem_keys {kvs : List (Key × V)} {ks : List Nat} (e : kvs.map (·.1) = ks.map kN) (b : Nat) : (valV kvs (kN b)).isSome = true ↔ b ∈ ks := by
  rw [← valV_any, List.any_eq_true]
  constructor
  · rintro ⟨p, m, h⟩
    have h2 : kN b ∈ ks.map kN := by rw [← e, ← of_decide_eq_true h]; exact List.mem_map_of_mem m
    obtain ⟨c, hc, he⟩ := List.mem_map.mp h2
    rw [← kN_inj he]; exact hc
  · intro m
    have h2 : kN b ∈ kvs.map (·.1) := by rw [e]; exact List.mem_map_of_mem m
    obtain ⟨p, hp, he⟩ := List.mem_map.mp h2
    exact ⟨p, hp, decide_eq_true he⟩
theorem putK_old {kvs : List (Key × V)} {k : Key} (v : V) (h : (valV kvs k).isSome = true) : (putK kvs k v).map (·.1) = kvs.map (·.1) := by
  unfold putK
  rw [valV_any, h, if_pos rfl, List.map_map]
  refine List.map_congr_left fun p _ => ?_
  show (if p.1 = k then (p.1, v) else p).1 = p.1
  split <;> rfl
theorem DcOk.put {H : Hp} {d : Addr} {n : Nat} {S : Nat → Prop} (h : DcOk H d n S) {b : Nat} (hb : b < n) (v : V) : ∃ kvs, H d = some (.dK kvs) ∧ kvs.length ≤ n ∧ DcOk (L2.upd H d (.dK (putK kvs (kN b) v))) d n (fun x => x = b ∨ S x) := by
  obtain ⟨kvs, ks, h1, h2, h3, h4, h5⟩ := h
  have hl : kvs.length = ks.length := by rw [← List.length_map (f := (·.1)) (as := kvs), h2, List.length_map]
  refine ⟨kvs, h1, by rw [hl]; exact few_below _ _ h3 h4, ?_⟩
  by_cases m : b ∈ ks
  · exact ⟨_, ks, upd_same, (putK_old v ((mem_keys h2 b).mpr m)).trans h2, h3, h4, fun x => (h5 x).trans ⟨.inr, fun o => o.elim (fun e => (h5 x).mp (by rw [e]; exact m)) id⟩⟩
  · have nn : valV kvs (kN b) = none := by
      cases e : valV kvs (kN b) with
      | none => rfl
      | some x => exact absurd ((mem_keys h2 b).mp (by rw [e]; rfl)) m
    refine ⟨_, ks ++ [b], upd_same, by rw [putK_new v nn, List.map_append, List.map_append, h2]; rfl, ?_, fun x hx => ?_, fun x => ?_⟩
    · exact List.nodup_append.mpr ⟨h3, (List.nodup_cons.mpr ⟨fun h => (by cases h), List.nodup_nil⟩), fun x hx y hy e => m (by rw [← List.mem_singleton.mp hy, ← e]; exact hx)⟩
    · rcases List.mem_append.mp hx with hx | hx
      · exact h4 x hx
      · rw [List.mem_singleton.mp hx]; exact hb
    · rw [List.mem_append, List.mem_singleton, h5 x]
      exact Or.comm
theorem DcOk.keep {H H' : Hp} {d : Addr} {n : Nat} {S : Nat → Prop} (h : DcOk H d n S) (k : ∀ o, H d = some o → H' d = some o) : DcOk H' d n S := by
  obtain ⟨kvs, ks, h1, h2⟩ := h
  exact ⟨kvs, ks, k _ h1, h2⟩
theorem DcOk.iff {H : Hp} {d : Addr} {n : Nat} {S S' : Nat → Prop} (h : DcOk H d n S) (k : ∀ b, S b ↔ S' b) : DcOk H d n S' := by
  obtain ⟨kvs, ks, h1, h2, h3, h4, h5⟩ := h
  exact ⟨kvs, ks, h1, h2, h3, h4, fun b => (h5 b).trans (k b)⟩
/-! ### a walk over a dict that a call has made -/
theorem pi_keysL {X : Cx} {tg e : Expr} {td : TE} (he : PE X e td) : PI X tg e (fun σ H R => td σ H fun x H1 => ∃ (d : Addr) (kvs : List (Key × V)), x = .ref d ∧ H1 d = some (.dK kvs) ∧ ∀ od, R (Itk d od kvs) (L2.upd H1 d (.frz od (.dK kvs)))) := by
  refine ⟨fun pins s σ H R I h => ?_⟩
  refine thn (he.run pins s σ H _ I h) fun u s1 ⟨x, H1, I1, rx, d, kvs, ex, hd, q⟩ => ?_
  subst ex
  obtain rfl : u = Value.ref d := rx
  obtain ⟨od, I2⟩ := I1.lock hd trivial
  obtain ⟨hs, hgd, hx, es, ep, vs, hdt, hsz, kv, hm⟩ := I2.frzK upd_same
  refine iter_keys hs hgd hx hdt (pi_one (tk := s1.toks) I2 _ (turn_keys _ hdt) ⟨_, Heap.get?_push_size _ rfl, rfl, ?_⟩ (q od))
  rw [hsz] <;> rfl
/-! ### reached -/
theorem DcOk.test {H : Hp} {d : Addr} {n : Nat} {S : Nat → Prop} (h : DcOk H d n S) (b : Nat) : ∃ kvs, H d = some (.dK kvs) ∧ ((valV kvs (kN b)).isSome = true ↔ S b) := by
  obtain ⟨kvs, ks, h1, h2, h3, h4, h5⟩ := h
  exact ⟨kvs, h1, (mem_keys h2 b).trans (h5 b)⟩
structure Rs (xss : List (List Int)) (st : List Int) (cl : Nat → List Int) (fl : List Nat) (ws : List Int) : Prop where
  nd : fl.Nodup
  lt : ∀ v ∈ fl, v < xss.length
  sound : ∀ v ∈ fl, Rch xss (-1) st v
  wait : ∀ t ∈ ws, ∃ v : Nat, t = (v : Int) ∧ v ∈ fl
  begin_ : ∀ v : Nat, (v : Int) ∈ st → v ∈ fl
  next : ∀ v ∈ fl, (v : Int) ∈ ws ∨ ∀ t : Nat, (t : Int) ∈ cl v → t ∈ fl
def clU (xss : List (List Int)) (u j : Nat) : Nat → List Int := fun v => if v = u then (xss.getD u []).take j else xss.getD v []
section
variable {xss : List (List Int)} {st ws : List Int} {fl : List Nat} {u j : Nat}
theorem Rs.fin (R : Rs xss st (fun v => xss.getD v []) fl []) (v : Nat) : v ∈ fl ↔ Rch xss (-1) st v := by
  refine ⟨R.sound v, fun h => ?_⟩
  induction h with
  | @start v m _ => exact R.begin_ v m
  | @step u v _ m _ ih =>
    rcases R.next u ih with h | h
    · cases h
    · exact h v m
theorem Rs.pop (R : Rs xss st (fun v => xss.getD v []) fl (ws ++ [(u : Int)])) : u ∈ fl ∧ Rs xss st (clU xss u 0) fl ws := by
  obtain ⟨v, e, hv⟩ := R.wait (u : Int) (by simp)
  have : v = u := by omega
  subst this
  refine ⟨hv, R.nd, R.lt, R.sound, fun t m => R.wait t (List.mem_append_left _ m), R.begin_, fun x hx => ?_⟩
  unfold clU
  by_cases z : x = v
  · rw [if_pos z, List.take_zero]
    exact .inr fun t m => by cases m
  · rw [if_neg z]
    rcases R.next x hx with h | h
    · rcases List.mem_append.mp h with h | h
      · exact .inl h
      · exact absurd (by have := List.mem_singleton.mp h; omega) z
    · exact .inr h
theorem clU_next {t : Int} (h : (xss.getD u [])[j]? = some t) (v : Nat) (x : Int) : x ∈ clU xss u (j + 1) v ↔ x ∈ clU xss u j v ∨ (v = u ∧ x = t) := by
  unfold clU
  by_cases z : v = u
  · rw [if_pos z, if_pos z, List.take_succ, h]
    simp [z]
  · rw [if_neg z, if_neg z]
    exact ⟨.inl, fun o => o.elim id fun q => absurd q.1 z⟩
theorem Rs.old {t : Nat} (R : Rs xss st (clU xss u j) fl ws) (h : (xss.getD u [])[j]? = some (t : Int)) (m : t ∈ fl) : Rs xss st (clU xss u (j + 1)) fl ws := by
  refine ⟨R.nd, R.lt, R.sound, R.wait, R.begin_, fun v hv => (R.next v hv).imp id fun g x hx => ?_⟩
  rcases (clU_next h v x).mp hx with hx | ⟨_, e⟩
  · exact g x hx
  · have : x = t := by omega
    rw [this]; exact m
theorem Rs.add {t : Nat} (R : Rs xss st (clU xss u j) fl ws) (h : (xss.getD u [])[j]? = some (t : Int)) (lt : t < xss.length) (uf : u ∈ fl) (m : t ∉ fl) : Rs xss st (clU xss u (j + 1)) (t :: fl) (ws ++ [(t : Int)]) := by
  refine ⟨List.nodup_cons.mpr ⟨m, R.nd⟩, fun v hv => ?_, fun v hv => ?_, fun x hx => ?_, fun v hv => .tail _ (R.begin_ v hv), fun v hv => ?_⟩
  · rcases List.mem_cons.mp hv with rfl | hv
    · exact lt
    · exact R.lt v hv
  · rcases List.mem_cons.mp hv with rfl | hv
    · exact .step (R.sound u uf) (List.mem_of_getElem? h) (by omega)
    · exact R.sound v hv
  · rcases List.mem_append.mp hx with hx | hx
    · obtain ⟨v, e, hv⟩ := R.wait x hx
      exact ⟨v, e, .tail _ hv⟩
    · exact ⟨t, List.mem_singleton.mp hx, .head _⟩
  · rcases List.mem_cons.mp hv with rfl | hv
    · exact .inl (List.mem_append_right _ (List.mem_singleton.mpr rfl))
    · refine (R.next v hv).imp (List.mem_append_left _) fun g x hx => ?_
      rcases (clU_next h v x).mp hx with hx | ⟨_, e⟩
      · exact .tail _ (g x hx)
      · have : x = t := by omega
        rw [this]; exact .head _
theorem Rs.full (R : Rs xss st (clU xss u (xss.getD u []).length) fl ws) : Rs xss st (fun v => xss.getD v []) fl ws := by
  refine ⟨R.nd, R.lt, R.sound, R.wait, R.begin_, fun v hv => (R.next v hv).imp id fun g x hx => g x ?_⟩
  unfold clU
  by_cases z : v = u
  · rw [if_pos z, List.take_length, ← z]; exact hx
  · rw [if_neg z]; exact hx
end
abbrev WRe (xss : List (List Int)) (st : List Int) (wv : V) (f D WA : Addr) (H : Hp) : Nat → L2.St → Hp → Prop := fun m σ H' => ∃ (fl : List Nat) (ws : List Int) (y2 y5 : Option V), σ = [some wv, some (.ref f), y2, some (.ref D), some (.ref WA), y5] ∧ m = ws.length + (xss.length - fl.length) ∧ ws.length ≤ 500 + fl.length ∧ Rs xss st (fun v => xss.getD v []) fl ws ∧ Same H H' ∧
        H' WA = some (.lst (ws.map V.int)) ∧ DcOk H' D xss.length (· ∈ fl)
def sp_reached (K : PySem.W.Frag) : Sp := fun vs H Q _ => ∃ (wv : V) (f : Addr) (xss : List (List Int)) (st : List Int), vs = [wv, .ref f] ∧ Dp K H wv (rowsD xss) ∧ SqL K H f (st.map V.int) ∧ WaysIn xss ∧ (∀ t ∈ st, 0 ≤ t ∧ t < xss.length) ∧ st.length ≤ 500 ∧
  ∀ D H', Same H H' → H D = none → DcOk H' D xss.length (fun v => Rch xss (-1) st v) → Q (.ref D) H'
theorem ok_reached (T : Tx w K mg) : FnOk P w K mg base CX0 1 T.a_reached T.d_reached ["ways", "first"] (sp_reached K) := by
  refine T.F_reached.ok sc_reached (fun vs H Q E h => ?_) (fun cdv A outer s H vs Q E hr h => ?_)
  · obtain ⟨wv, f, xss, st, rfl, _⟩ := h
    rfl
  · obtain ⟨wv, f, xss, st, rfl, dw, hS, WI, hst, hsl, k⟩ := h
    refine ⟨_, (pss_cons (ps_setDc (i := 3) (own := [("node", 2)]) (g := gName 2) (tt := tYes) rfl sc_reached.nd rfl rfl (swd_true rfl rfl rfl (by decide +kernel)) (pi_list (pv 1)) (blkOk_by (N := ["ways", "first", "node", "found", "waiting", "last"]) (sc := defScope s_reached) (by decide +kernel)) (fun _ _ _ _ _ => (pg_name (i := 2) sc_reached.nd rfl (.inl rfl))) (fun _ _ _ _ _ => pts_nil) (fun _ _ _ _ _ => (pv 2)) (fun _ _ _ _ _ => pe_bl))
      (pss_cons (ps_set (i := 4) sc_reached.nd rfl (.inl rfl) (pe_callTy call_list_of (by rfl) T.z_list (by decide +kernel) (pa_cons (pv 1) pa_nil)))
      (pss_cons (ps_while PassesOwn.never (pt_cmpR op_gt (pe_callB call_len_seq (by rfl) T.z_len (by decide +kernel) (pa_cons (pv 4) pa_nil)) pe_int (nomark _)) (pss_cons (ps_set (i := 5) sc_reached.nd rfl (.inl rfl) (pe_bm0 PySem.F.plainAttrs_list PySem.F.slot_list_pop PySem.F.type_list_pop mt_pop (pv 4)))
      (pss_one (ps_for PassesOwn.never rfl (pi_list (pe_ix ix_list (pv 0) (pv 5) (fun _ _ => rfl))) (pg_name (i := 2) sc_reached.nd rfl (.inl rfl)) (pss_one (ps_if (pt_cmp (pc_dnotin (hu_of hr) (pv 2) (pv 3))) (pss_cons (ps_dput (hu_of hr) (pv 3) (pv 2) pe_bl rfl)
      (pss_one (ps_expr (pe_bm PySem.F.plainAttrs_list PySem.F.slot_list_append PySem.F.type_list_append mt_append (pv 4) (pa_cons (pv 2) pa_nil))))) pss_nil))))))
      (pss_one (ps_ret (pv 3)))))), ?_⟩
    have few := WI.few
    refine ⟨_, rfl, _, rfl, ⟨_, hS⟩, fun D nD => ?_⟩
    refine dc_it (walk_list (K := K) (a := f) (xs := st.map V.int)) (fun i H' => Same H H' ∧ DcOk H' D xss.length (fun v => (v : Int) ∈ st.take i))
      ⟨same_new5 nD, [], [], upd_same, rfl, List.nodup_nil, fun b m => (by cases m), fun b => ⟨fun m => (by cases m), fun m => (by cases m)⟩⟩ (fun i H' _ h => h.1.seq hS) ?_ ?_
    · rintro i x H2 H3 hi ⟨s2, DC⟩ ⟨rfl, hx⟩
      rw [List.getElem?_map] at hx
      cases ht : st[i]? with
      | none => rw [ht] at hx; cases hx
      | some t =>
      rw [ht] at hx
      cases hx
      obtain ⟨t0, t1⟩ := hst t (List.mem_of_getElem? ht)
      obtain ⟨u, rfl⟩ : ∃ u : Nat, t = (u : Int) := ⟨t.toNat, by omega⟩
      obtain ⟨kvs, p1, p2, p3⟩ := DC.put (b := u) (by omega) (.bl true)
      refine ⟨rfl, _, rfl, kvs, kN u, rfl, p1, small1000 (by omega), same_upd s2 nD, p3.iff fun v => ?_⟩
      rw [List.take_succ, ht]
      simp only [List.mem_append, Option.toList_some, List.mem_singleton]
      exact ⟨fun o => o.elim (fun e => .inr (by rw [e])) .inl, fun o => o.elim .inr fun e => .inl (by omega)⟩
    rintro H2 ⟨s2, DC⟩
    rw [List.length_map, List.take_length] at DC
    have hS2 := s2.seq hS
    refine ⟨_, rfl, f, _, rfl, .inl hS2, fun WA nW => ?_⟩
    have nW0 := none_of s2 nW
    have s3 : Same H (L2.upd H2 WA (.lst (st.map V.int))) := s2.trans (same_new5 nW)
    have hW3 : L2.upd H2 WA (.lst (st.map V.int)) WA = some (.lst (st.map V.int)) := upd_same
    have DC3 : DcOk (L2.upd H2 WA (.lst (st.map V.int))) D xss.length (fun v => (v : Int) ∈ st) := DC.keep fun o h => same_new5 nW _ _ h
    have hDW : D ≠ WA := fun e => by obtain ⟨_, _, h1, _⟩ := DC; rw [e, nW] at h1; cases h1
    generalize L2.upd H2 WA (.lst (st.map V.int)) = H3 at s3 hW3 DC3 ⊢
    obtain ⟨kv0, ks, h1, h2, h3, h4, h5⟩ := DC3
    have start : Rs xss st (fun v => xss.getD v []) ks st := by
      refine ⟨h3, h4, fun v m => .start ((h5 v).mp m) (by omega), fun t m => ?_, fun v m => (h5 v).mpr m, fun v m => .inl ((h5 v).mp m)⟩
      obtain ⟨t0, t1⟩ := hst t m
      exact ⟨t.toNat, by omega, (h5 _).mpr (by show ((t.toNat : Nat) : Int) ∈ st; rw [Int.toNat_of_nonneg t0]; exact m)⟩
    refine while_m (WRe xss st wv f D WA H)
      ⟨_, ks, st, none, none, rfl, rfl, by omega, start, s3, hW3, ⟨kv0, ks, h1, h2, h3, h4, fun b => Iff.rfl⟩⟩ ?_ ?_
    · rintro m σ H4 ⟨fl, ws, y2, y5, rfl, rfl, wl, R, s4, hW4, DC4⟩
      have fln := few_below _ _ R.nd R.lt
      refine ⟨_, rfl, _, _, rfl, .inl (SqL.of hW4), _, _, rfl, rfl, _, rfl, ite2 (fun z => ?_) (fun z => ?_)⟩
      · rcases snoc_cases ws with rfl | ⟨ws, t, rfl⟩
        · exact absurd (of_decide_eq_true z) (by simp)
        obtain ⟨u, rfl, _⟩ := R.wait t (by simp)
        obtain ⟨uf, R0⟩ := R.pop
        have ul := R.lt u uf
        have hW4' : H4 WA = some (.lst (ws.map V.int ++ [V.int (u : Int)])) := by rw [hW4, List.map_append]; rfl
        have wl' : (ws ++ [(u : Int)]).length = ws.length + 1 := by rw [List.length_append]; rfl
        refine ⟨_, rfl, .inl ⟨rfl, _, SqL.of hW4'⟩, _, _, _, rfl, rfl, hW4', last_at _ _, ?_⟩
        rw [drop_last]
        have s5 : Same H (L2.upd H4 WA (.lst (ws.map V.int))) := same_upd s4 nW0
        have DC5 : DcOk (L2.upd H4 WA (.lst (ws.map V.int))) D xss.length (· ∈ fl) := DC4.keep fun o h => by rw [upd_ne hDW]; exact h
        have hW5 : L2.upd H4 WA (.lst (ws.map V.int)) WA = some (.lst (ws.map V.int)) := upd_same
        generalize L2.upd H4 WA (.lst (ws.map V.int)) = H5 at s5 DC5 hW5 ⊢
        obtain ⟨wa, wus, wb, ew, w1, w2, w3⟩ := rows_item dw ul
        subst ew
        generalize hX : xss.getD u [] = xs at w3
        have rowU := WI.row u
        rw [hX] at rowU
        refine ⟨_, rfl, _, rfl, _, _, _, _, rfl, rfl, s5.seq w1, w2, wb, rfl, ⟨_, s5.seq w3⟩, for_list (K := K) (a := wb) (xs := xs.map V.int) (D := { nx := fun σ' H' => ∃ m', m' < (ws ++ [(u : Int)]).length + (xss.length - fl.length) ∧ WRe xss st (.ref wa) f D WA H m' σ' H', rt := Q }) (fun j σ H' => ∃ (fl' : List Nat) (ws' : List Int) (y2 : Option V), σ = [some (.ref wa), some (.ref f), y2, some (.ref D), some (.ref WA), some (.int (u : Int))] ∧ ws'.length + fl.length = ws.length + fl'.length ∧ fl.length ≤ fl'.length ∧ u ∈ fl' ∧ Rs xss st (clU xss u j) fl' ws' ∧ Same H H' ∧
            H' WA = some (.lst (ws'.map V.int)) ∧ DcOk H' D xss.length (· ∈ fl'))
          ⟨fl, ws, y2, rfl, rfl, Nat.le_refl _, uf, R0, s5, hW5, DC5⟩ (fun j σ H' _ ⟨_, _, _, _, _, _, _, _, s6, _⟩ => s6.seq w3) ?_ ?_⟩
        · rintro j x σ H6 hx ⟨fl', ws', y2, rfl, c1, c2, uf', R', s6, hW6, DC6⟩
          rw [List.getElem?_map] at hx
          cases ht : xs[j]? with
          | none => rw [ht] at hx; cases hx
          | some t =>
          rw [ht] at hx
          cases hx
          obtain ⟨t0, t1⟩ := rowU.2 t (List.mem_of_getElem? ht)
          obtain ⟨v, rfl⟩ : ∃ v : Nat, t = (v : Int) := ⟨t.toNat, by omega⟩
          have ht' : (xss.getD u [])[j]? = some (v : Int) := by rw [hX]; exact ht
          obtain ⟨kvs, g1, g2⟩ := DC6.test v
          refine ⟨_, rfl, _, rfl, D, _, rfl, DGet.k (k := kN v) g1, _, rfl, ?_⟩
          by_cases mv : v ∈ fl'
          · rw [g2.mpr mv]
            exact iteF ⟨fl', ws', _, rfl, c1, c2, uf', R'.old ht' mv, s6, hW6, DC6⟩
          · have sm : (valV kvs (kN v)).isSome = false := by
              cases e : (valV kvs (kN v)).isSome with
              | false => rfl
              | true => exact absurd (g2.mp e) mv
            rw [sm]
            refine iteT ?_
            obtain ⟨kvs', p1, p2, p3⟩ := DC6.put (b := v) (by omega) (.bl true)
            rw [g1] at p1
            cases p1
            have R2 := R'.add ht' (by omega) uf' mv
            have cn := few_below _ _ R2.nd R2.lt
            rw [List.length_cons] at cn
            refine ⟨_, rfl, _, rfl, D, _, rfl, DPut.k (k := kN v) g1 (small1000 (by omega)), ?_⟩
            have s7 : Same H (L2.upd H6 D (.dK (putK kvs (kN v) (.bl true)))) := same_upd s6 nD
            have hW7 : L2.upd H6 D (.dK (putK kvs (kN v) (.bl true))) WA = some (.lst (ws'.map V.int)) := by rw [upd_ne hDW.symm]; exact hW6
            generalize L2.upd H6 D (.dK (putK kvs (kN v) (.bl true))) = H7 at s7 hW7 p3 ⊢
            refine ⟨_, rfl, .inl ⟨rfl, _, SqL.of hW7⟩, _, rfl, _, _, _, rfl, rfl, hW7, small1000 (by rw [List.length_map]; omega), ?_⟩
            refine ⟨v :: fl', ws' ++ [(v : Int)], _, rfl, by simp only [List.length_append, List.length_cons, List.length_nil]; omega, by rw [List.length_cons]; omega, .tail _ uf', R2, same_upd s7 nW0, by rw [upd_same, List.map_append]; rfl, ?_⟩
            exact (p3.iff fun x => ⟨fun o => o.elim (fun e => by rw [e]; exact .head _) (.tail _), fun m => List.mem_cons.mp m⟩).keep fun o h => by rw [upd_ne hDW]; exact h
        · rintro σ H6 ⟨fl', ws', y2, rfl, c1, c2, uf', R', s6, hW6, DC6⟩
          rw [List.length_map, ← hX] at R'
          have R2 := R'.full
          have cn := few_below _ _ R2.nd R2.lt
          exact ⟨_, (by omega), fl', ws', _, _, rfl, rfl, by omega, R2, s6, hW6, DC6⟩
      · have h0 : ws = [] := by
          cases ws with
          | nil => rfl
          | cons a r => exact absurd (decide_eq_true (by rw [List.length_map, List.length_cons]; omega)) z
        subst h0
        exact ⟨_, rfl, k D H4 s4 nD (DC4.iff R.fin)⟩
    · rintro σ H Q Q' q ⟨v, e1, p, ys, e2, h1, i, j, e3, e4, k, e5, h⟩
      exact ⟨v, e1, p, ys, e2, h1, i, j, e3, e4, k, e5, q _ _ h⟩
/-! ### ways back from the exits -/
def exOf (xss : List (List Int)) : List Nat := (List.range xss.length).filter fun a => decide (xss.getD a [] = [])
def exI (xss : List (List Int)) : List Int := (exOf xss).map fun (n : Nat) => (n : Int)
def fw1 (xss : List (List Int)) (es : List Nat) : List (List Int) := (List.range xss.length).map fun v => if v ∈ es then xss.getD v [] ++ [(xss.length : Int)] else xss.getD v []
def revs (xss : List (List Int)) : List (List Int) := comes xss ++ [exI xss]
def fwds (xss : List (List Int)) : List (List Int) := fw1 xss (exOf xss) ++ [[]]
section
variable {xss : List (List Int)}
theorem mem_exOf {a : Nat} : a ∈ exOf xss ↔ a < xss.length ∧ xss.getD a [] = [] := by
  unfold exOf
  rw [List.mem_filter, List.mem_range, decide_eq_true_iff]
theorem exOf_len : (exOf xss).length ≤ xss.length := by
  unfold exOf
  exact Nat.le_trans (List.length_filter_le _ _) (by rw [List.length_range]; exact Nat.le_refl _)
theorem exOf_nodup : (exOf xss).Nodup := by
  unfold exOf
  exact List.Pairwise.filter _ List.nodup_range
theorem fw1_len (es : List Nat) : (fw1 xss es).length = xss.length := by unfold fw1; rw [List.length_map, List.length_range]
theorem fw1_at {es : List Nat} {v : Nat} (h : v < xss.length) : (fw1 xss es)[v]? = some (if v ∈ es then xss.getD v [] ++ [(xss.length : Int)] else xss.getD v []) := by
  unfold fw1
  rw [List.getElem?_map, List.getElem?_range h]
  rfl
theorem fw1_nil : fw1 xss [] = xss := by
  refine List.ext_getElem? fun i => ?_
  by_cases hi : i < xss.length
  · rw [fw1_at hi, if_neg (by simp), List.getD_eq_getElem?_getD, List.getElem?_eq_getElem hi]; rfl
  · rw [List.getElem?_eq_none (by rw [fw1_len]; omega), List.getElem?_eq_none (by omega)]
theorem fw1_snoc {es : List Nat} {e : Nat} (he : e < xss.length) (ne : e ∉ es) : (fw1 xss es).set e (xss.getD e [] ++ [(xss.length : Int)]) = fw1 xss (es ++ [e]) := by
  refine List.ext_getElem? fun i => ?_
  by_cases hi : i < xss.length
  · by_cases z : i = e
    · subst z
      rw [List.getElem?_set_self (by rw [fw1_len]; exact hi), fw1_at hi, if_pos (by simp)]
    · rw [List.getElem?_set_ne (fun q => z q.symm), fw1_at hi, fw1_at hi]
      have : i ∈ es ++ [e] ↔ i ∈ es := by simp [z]
      by_cases q : i ∈ es
      · rw [if_pos q, if_pos (this.mpr q)]
      · rw [if_neg q, if_neg (fun h => q (this.mp h))]
  · rw [List.getElem?_eq_none (by rw [List.length_set, fw1_len]; omega), List.getElem?_eq_none (by rw [fw1_len]; omega)]
theorem getD_snoc (xs : List (List Int)) (y : List Int) (v : Nat) : (xs ++ [y]).getD v [] = if v < xs.length then xs.getD v [] else if v = xs.length then y else [] := by
  rw [List.getD_eq_getElem?_getD, getElem?_concat]
  by_cases h : v < xs.length
  · rw [if_pos h, if_pos h, List.getD_eq_getElem?_getD]
  · rw [if_neg h, if_neg h]
    by_cases z : v = xs.length
    · rw [if_pos z, if_pos z]; rfl
    · rw [if_neg z, if_neg z]; rfl
theorem revs_len : (revs xss).length = xss.length + 1 := by unfold revs; rw [List.length_append, comes_len]; rfl
theorem fwds_len : (fwds xss).length = xss.length + 1 := by unfold fwds; rw [List.length_append, fw1_len]; rfl
theorem mem_revs {v : Nat} {t : Int} : t ∈ (revs xss).getD v [] ↔ ∃ k : Nat, t = (k : Int) ∧ k < xss.length ∧ ((v < xss.length ∧ (v : Int) ∈ xss.getD k []) ∨ (v = xss.length ∧ xss.getD k [] = [])) := by
  unfold revs
  rw [getD_snoc, comes_len]
  by_cases h : v < xss.length
  · rw [if_pos h, comes_at h, List.mem_map]
    constructor
    · rintro ⟨k, hk, rfl⟩
      have := List.mem_filter.mp hk
      exact ⟨k, rfl, List.mem_range.mp this.1, .inl ⟨h, of_decide_eq_true this.2⟩⟩
    · rintro ⟨k, rfl, hk, o⟩
      rcases o with o | o
      · exact ⟨k, List.mem_filter.mpr ⟨List.mem_range.mpr hk, decide_eq_true o.2⟩, rfl⟩
      · omega
  · rw [if_neg h]
    by_cases z : v = xss.length
    · rw [if_pos z]
      unfold exI
      rw [List.mem_map]
      constructor
      · rintro ⟨k, hk, rfl⟩
        have := mem_exOf.mp hk
        exact ⟨k, rfl, this.1, .inr ⟨z, this.2⟩⟩
      · rintro ⟨k, rfl, hk, o⟩
        rcases o with o | o
        · omega
        · exact ⟨k, mem_exOf.mpr ⟨hk, o.2⟩, rfl⟩
    · rw [if_neg z]
      exact ⟨fun m => (by cases m), fun ⟨k, _, _, o⟩ => (by rcases o with o | o <;> omega)⟩
theorem mem_fwds {v : Nat} {t : Int} : t ∈ (fwds xss).getD v [] ↔ v < xss.length ∧ (t ∈ xss.getD v [] ∨ (xss.getD v [] = [] ∧ t = (xss.length : Int))) := by
  unfold fwds
  rw [getD_snoc, fw1_len]
  by_cases h : v < xss.length
  · rw [if_pos h, List.getD_eq_getElem?_getD, fw1_at h]
    by_cases z : v ∈ exOf xss
    · have e := (mem_exOf.mp z).2
      rw [if_pos z]
      show t ∈ xss.getD v [] ++ _ ↔ _
      rw [e]
      simp [h]
    · have e : ¬ xss.getD v [] = [] := fun q => z (mem_exOf.mpr ⟨h, q⟩)
      rw [if_neg z]
      show t ∈ xss.getD v [] ↔ _
      simp only [h, e, true_and, false_and, or_false]
  · rw [if_neg h]
    by_cases z : v = xss.length
    · rw [if_pos z]; exact ⟨fun m => (by cases m), fun o => absurd o.1 h⟩
    · rw [if_neg z]; exact ⟨fun m => (by cases m), fun o => absurd o.1 h⟩
theorem FlowWays.revsIn (F : FlowWays xss) : WaysIn (revs xss) := by
  have C := F.comesIn
  have sm := F.small
  refine ⟨fun xs m t ht => ?_, by rw [revs_len]; omega, fun xs m => ?_⟩
  all_goals rcases List.mem_append.mp m with m | m
  · have := C.lt xs m t ht
    rw [comes_len] at this
    rw [revs_len]
    omega
  · rw [List.mem_singleton.mp m] at ht
    obtain ⟨k, hk, rfl⟩ := List.mem_map.mp ht
    have := (mem_exOf.mp hk).1
    rw [revs_len]
    exact ⟨Int.natCast_nonneg k, by show (k : Int) < _; omega⟩
  · exact C.deg xs m
  · rw [List.mem_singleton.mp m]
    unfold exI
    rw [List.length_map]
    exact Nat.le_trans exOf_len (by omega)
theorem FlowWays.fwdsIn (F : FlowWays xss) : WaysIn (fwds xss) := by
  have C := F.waysIn
  have sm := F.small
  refine ⟨fun xs m t ht => ?_, by rw [fwds_len]; omega, fun xs m => ?_⟩
  all_goals rcases List.mem_append.mp m with m | m
  · obtain ⟨v, hv, rfl⟩ := List.mem_map.mp m
    have hv := List.mem_range.mp hv
    have old : t ∈ xss.getD v [] → 0 ≤ t ∧ t < ((fwds xss).length : Int) := fun h => by
      have := (C.row v).2 t h
      rw [fwds_len]
      omega
    split at ht
    · rcases List.mem_append.mp ht with h | h
      · exact old h
      · rw [List.mem_singleton.mp h, fwds_len]; omega
    · exact old ht
  · rw [List.mem_singleton.mp m] at ht
    cases ht
  · obtain ⟨v, hv, rfl⟩ := List.mem_map.mp m
    have two := F.ok.two
    have l2 : (xss.getD v []).length ≤ 2 := by
      rw [List.getD_eq_getElem?_getD, List.getElem?_eq_getElem (List.mem_range.mp hv)]
      exact two _ (List.getElem_mem _)
    split
    · rw [List.length_append, List.length_singleton]; omega
    · omega
  · rw [List.mem_singleton.mp m]; exact Nat.zero_le _
theorem FlowWays.orgBack (F : FlowWays xss) : OrgOk (revs xss) (fwds xss) := by
  refine ⟨by rw [fwds_len, revs_len], fun v t ht => ?_, fun u v hv => ?_⟩
  · obtain ⟨hv, o⟩ := mem_fwds.mp ht
    rcases o with o | ⟨o, rfl⟩
    · have := (F.waysIn.row v).2 t o
      refine ⟨t.toNat, by omega, by rw [revs_len]; omega, mem_revs.mpr ⟨v, rfl, hv, .inl ⟨by omega, ?_⟩⟩⟩
      rw [Int.toNat_of_nonneg this.1]; exact o
    · exact ⟨xss.length, rfl, by rw [revs_len]; omega, mem_revs.mpr ⟨v, rfl, hv, .inr ⟨rfl, o⟩⟩⟩
  · obtain ⟨k, e, hk, o⟩ := mem_revs.mp hv
    have : k = v := by omega
    subst this
    rcases o with ⟨o1, o2⟩ | ⟨o1, o2⟩
    · exact mem_fwds.mpr ⟨hk, .inl o2⟩
    · exact mem_fwds.mpr ⟨hk, .inr ⟨o2, by rw [o1]⟩⟩
/-- a way from b to an exit that leaves out w -/
def EW (xss : List (List Int)) (b : Nat) (w : Int) : Prop := ∃ e, e < xss.length ∧ xss.getD e [] = [] ∧ Rch xss w [(b : Int)] e
theorem rch_ne {w : Int} {st : List Int} {v : Nat} (h : Rch xss w st v) : (v : Int) ≠ w := by
  cases h with
  | start _ n => exact n
  | step _ _ n => exact n
theorem rch_first {w : Int} {b v : Nat} (h : Rch xss w [(b : Int)] v) : (b : Int) ≠ w := by
  induction h with
  | @start v m n => rw [← List.mem_singleton.mp m]; exact n
  | step _ _ _ ih => exact ih
theorem rch_pre {w : Int} {u v e : Nat} (h : Rch xss w [(u : Int)] e) (m : (u : Int) ∈ xss.getD v []) (n : (v : Int) ≠ w) : Rch xss w [(v : Int)] e := by
  have n2 := rch_first h
  induction h with
  | @start x q n3 =>
    have : x = u := by have := List.mem_singleton.mp q; omega
    subst this
    exact .step (.start (List.mem_singleton.mpr rfl) n) m n2
  | step _ q n3 ih => exact .step ih q n3
section
variable {ord : List Nat} (O : OrdOk (revs xss) xss.length ord)
include O
theorem back_in {w : Int} {b u : Nat} (W : WaysIn xss) (h : Rch xss w [(b : Int)] u) : u ∈ ord → b ∈ ord := by
  induction h with
  | @start x q _ =>
    intro m
    have : x = b := by have := List.mem_singleton.mp q; omega
    rw [← this]; exact m
  | @step u v _ q _ ih =>
    intro m
    have vl : v < xss.length := by have := (W.row u).2 _ q; omega
    have := O.closed v m (u : Int) (mem_revs.mpr ⟨u, rfl, getD_lt q, .inl ⟨vl, q⟩⟩)
    rw [Int.toNat_natCast] at this
    exact ih this
theorem exit_in {e : Nat} (he : e < xss.length) (h : xss.getD e [] = []) : e ∈ ord := by
  have := O.closed xss.length O.rootIn (e : Int) (mem_revs.mpr ⟨e, rfl, he, .inr ⟨rfl, h⟩⟩)
  rw [Int.toNat_natCast] at this
  exact this
theorem ord_ew {w : Int} (hw : ∀ v ∈ ord, (v : Int) ≠ w) : ∀ (i v : Nat), ord[i]? = some v → v ≠ xss.length → EW xss v w := by
  intro i
  induction i using Nat.strongRecOn with
  | ind i ih =>
    intro v hv ne
    obtain ⟨j, u, hj, hu, m⟩ := O.par i v hv ne
    obtain ⟨k, e, hk, o⟩ := mem_revs.mp m
    have : k = v := by omega
    subst this
    have nw := hw k (List.mem_of_getElem? hv)
    rcases o with ⟨o1, o2⟩ | ⟨o1, o2⟩
    · obtain ⟨x, x1, x2, x3⟩ := ih j hj u hu (by omega)
      exact ⟨x, x1, x2, rch_pre x3 o2 nw⟩
    · exact ⟨k, hk, o2, .start (List.mem_singleton.mpr rfl) nw⟩
theorem ew_in (W : WaysIn xss) {b : Nat} (hb : b < xss.length) : EW xss b (-1) ↔ b ∈ ord := by
  constructor
  · rintro ⟨e, e1, e2, e3⟩
    exact back_in O W e3 (exit_in O e1 e2)
  · intro m
    exact ord_ew O (fun v _ => by omega) _ b (idx_at m) (by omega)
theorem ew_avoid (W : WaysIn xss) {b d : Nat} (hb : b < xss.length) (hd : d < xss.length) : EW xss b (d : Int) ↔ Dm.Avoid (grOf O) d b := by
  constructor
  · rintro ⟨e, e1, e2, e3⟩
    refine ⟨fun z => by have z' : xss.length = d := z; omega, ?_⟩
    have base : Dm.Way (grOf O) (· ≠ d) xss.length e := .snoc (.nil _) ⟨O.rootIn, mem_revs.mpr ⟨e, rfl, e1, .inr ⟨rfl, e2⟩⟩⟩ fun z => rch_ne e3 (by rw [z])
    have back : ∀ u, Rch xss (d : Int) [(b : Int)] u → Dm.Way (grOf O) (· ≠ d) xss.length u → u ∈ ord → Dm.Way (grOf O) (· ≠ d) xss.length b := by
      intro u h
      induction h with
      | @start x q _ =>
        intro p _
        have : x = b := by have := List.mem_singleton.mp q; omega
        rw [← this]; exact p
      | @step u v h1 q n3 ih =>
        intro p m
        have vl : v < xss.length := by have := (W.row u).2 _ q; omega
        have mr : (u : Int) ∈ (revs xss).getD v [] := mem_revs.mpr ⟨u, rfl, getD_lt q, .inl ⟨vl, q⟩⟩
        have := O.closed v m (u : Int) mr
        rw [Int.toNat_natCast] at this
        exact ih (.snoc p ⟨m, mr⟩ fun z => rch_ne h1 (by rw [z])) this
    exact back e e3 base (exit_in O e1 e2)
  · rintro ⟨_, h⟩
    have go : ∀ a v, Dm.Way (grOf O) (· ≠ d) a v → a = xss.length → v ≠ xss.length → EW xss v (d : Int) := by
      intro a v h
      induction h with
      | nil => intro z n; exact absurd z n
      | @snoc u v _ e p ih =>
        intro z n
        obtain ⟨k, e1, hk, o⟩ := mem_revs.mp e.2
        have : k = v := by omega
        subst this
        have p' : (k : Int) ≠ (d : Int) := fun q => p (by omega)
        rcases o with ⟨o1, o2⟩ | ⟨o1, o2⟩
        · obtain ⟨x, x1, x2, x3⟩ := ih z (by omega)
          exact ⟨x, x1, x2, rch_pre x3 o2 p'⟩
        · exact ⟨k, hk, o2, .start (List.mem_singleton.mpr rfl) p'⟩
    exact go _ _ h rfl (by omega)
end
/-! ### what is due -/
def GoodP (xss : List (List Int)) (a b : Nat) : Prop := a < xss.length ∧ a ≠ b ∧ ¬ EW xss b (a : Int) ∧ ∀ c, c < xss.length → c ≠ b → ¬ EW xss b (c : Int) → ¬ EW xss a (c : Int)
def DueP (xss : List (List Int)) (b : Nat) (x : Int) : Prop := (¬ EW xss b (-1) ∧ x = -1) ∨ (EW xss b (-1) ∧ ((x = -1 ∧ ∀ a, ¬ GoodP xss a b) ∨ ∃ a : Nat, x = (a : Int) ∧ GoodP xss a b))
structure PdOk (xss : List (List Int)) (f : Nat → Option Nat) : Prop where
  ex : ∃ (ord : List Nat) (O : OrdOk (revs xss) xss.length ord), Dm.Tr (grOf O) f ∧ (∀ v ∈ ord, f v ≠ none) ∧ ∀ v ∈ ord, ∀ d ∈ ord, (Dm.Anc f v d ↔ ¬ Dm.Avoid (grOf O) d v)
def pdX (n : Nat) (f : Nat → Option Nat) (v : Nat) : Int := if fv f v = (n : Int) then -1 else fv f v
def pdV (f : Nat → Option Nat) (n : Nat) : List V := (List.range n).map fun v => V.int (pdX n f v)
theorem pdV_at {f : Nat → Option Nat} {n v : Nat} (h : v < n) : (pdV f n)[v]? = some (.int (pdX n f v)) := by
  unfold pdV
  rw [List.getElem?_map, List.getElem?_range h]
  rfl
theorem pdV_len (f : Nat → Option Nat) (n : Nat) : (pdV f n).length = n := by unfold pdV; rw [List.length_map, List.length_range]
theorem PdOk.due {f : Nat → Option Nat} (P : PdOk xss f) (W : WaysIn xss) {b : Nat} (hb : b < xss.length) {x : Int} (h : DueP xss b x) : pdX xss.length f b = x := by
  obtain ⟨ord, O, T, ff, ex⟩ := P.ex
  have nb : b ≠ xss.length := by omega
  have own : b ∈ ord → ∀ a, a < xss.length → ¬ EW xss b (a : Int) → a ∈ ord ∧ Dm.Anc f b a := fun m a ha na => by
    have ma : a ∈ ord := by
      refine Classical.byContradiction fun q => na (ord_ew O (fun v hv z => q ?_) _ b (idx_at m) nb)
      have : v = a := by omega
      rw [← this]; exact hv
    exact ⟨ma, (ex b m a ma).mpr fun av => na ((ew_avoid O W hb ha).mpr av)⟩
  by_cases m : b ∈ ord
  · have eb := (ew_in O W hb).mpr m
    rcases h with ⟨h, _⟩ | ⟨_, h⟩
    · exact absurd eb h
    cases e : f b with
    | none => exact absurd e (ff b m)
    | some u =>
    have um : u ∈ ord := (T.tot e).2.1
    by_cases z : u = xss.length
    · have : pdX xss.length f b = -1 := by unfold pdX; rw [fv_some e, z, if_pos rfl]
      rw [this]
      rcases h with ⟨rfl, _⟩ | ⟨a, _, g⟩
      · rfl
      · have q := T.up_of (own m a g.1 g.2.2.1).2 (fun y => g.2.1 y.symm) e
        rw [z] at q
        have := T.root_only q
        have l := g.1
        have r : a = xss.length := this
        omega
    · have ul : u < xss.length := by have := O.lt u um; rw [revs_len] at this; omega
      have px : pdX xss.length f b = (u : Int) := by
        unfold pdX
        rw [fv_some e, if_neg (by omega)]
      have lt : ord.idxOf u < ord.idxOf b := T.dec e nb
      have ub : u ≠ b := fun q => by rw [q] at lt; exact Nat.lt_irrefl _ lt
      have nu : ¬ EW xss b (u : Int) := fun q => (ex b m u um).mp (.up e (.self _)) ((ew_avoid O W hb ul).mp q)
      have gu : GoodP xss u b := by
        refine ⟨ul, ub, nu, fun c cl cb nc q => ?_⟩
        obtain ⟨mc, ac⟩ := own m c cl nc
        exact (ex u um c mc).mp (T.up_of ac (fun y => cb y.symm) e) ((ew_avoid O W ul cl).mp q)
      rcases h with ⟨_, no⟩ | ⟨a, rfl, g⟩
      · exact absurd gu (no u)
      · obtain ⟨ma, aa⟩ := own m a g.1 g.2.2.1
        have p1 : Dm.Anc f u a := T.up_of aa (fun y => g.2.1 y.symm) e
        have p2 : Dm.Anc f a u := (ex a ma u um).mpr fun av => g.2.2.2 u ul ub nu ((ew_avoid O W g.1 ul).mpr av)
        have q : a = u := (grOf O).inj ma um (Nat.le_antisymm (T.le p1) (T.le p2))
        rw [px, q]
  · have nf : f b = none := by
      cases e : f b with
      | none => rfl
      | some u => exact absurd (T.tot e).1 m
    have : pdX xss.length f b = -1 := by unfold pdX; rw [fv_none nf, if_neg (by omega)]
    rw [this]
    rcases h with ⟨_, e⟩ | ⟨h, _⟩
    · exact e.symm
    · exact absurd ((ew_in O W hb).mp h) m
theorem PdOk.all {f : Nat → Option Nat} (P : PdOk xss f) (W : WaysIn xss) {zs : List Int} (hl : zs.length = xss.length) (h : ∀ b x, zs[b]? = some x → DueP xss b x) : pdV f xss.length = zs.map V.int := by
  refine List.ext_getElem? fun b => ?_
  by_cases hb : b < xss.length
  · have hz : b < zs.length := by omega
    have e := List.getElem?_eq_getElem hz
    rw [pdV_at hb, P.due W hb (h b _ e), List.getElem?_map, e]
    rfl
  · rw [List.getElem?_eq_none (by rw [pdV_len]; omega), List.getElem?_eq_none (by rw [List.length_map]; omega)]
/-! ### what is kept -/
def keptW (w : Int) (xss : List (List Int)) : List (List Int) := xss.map fun xs => xs.filter fun t => decide (t ≠ w)
theorem kept_at (w : Int) (v : Nat) : (keptW w xss).getD v [] = (xss.getD v []).filter fun t => decide (t ≠ w) := by
  unfold keptW
  rw [List.getD_eq_getElem?_getD, List.getD_eq_getElem?_getD, List.getElem?_map]
  cases xss[v]? <;> rfl
theorem rch_kept {w : Int} {b v : Nat} : Rch (keptW w xss) (-1) ((keptW w xss).getD b []) v ↔ Rch xss w (xss.getD b []) v := by
  constructor
  · intro h
    induction h with
    | @start v m _ =>
      rw [kept_at] at m
      obtain ⟨m1, m2⟩ := List.mem_filter.mp m
      exact .start m1 (of_decide_eq_true m2)
    | @step u v _ m _ ih =>
      rw [kept_at] at m
      obtain ⟨m1, m2⟩ := List.mem_filter.mp m
      exact .step ih m1 (of_decide_eq_true m2)
  · intro h
    induction h with
    | @start v m n => exact .start (by rw [kept_at]; exact List.mem_filter.mpr ⟨m, decide_eq_true n⟩) (by omega)
    | @step u v _ m n ih => exact .step ih (by rw [kept_at]; exact List.mem_filter.mpr ⟨m, decide_eq_true n⟩) (by omega)
theorem WaysIn.kept {w : Int} (W : WaysIn xss) : WaysIn (keptW w xss) := by
  unfold keptW
  refine ⟨fun xs m t ht => ?_, by rw [List.length_map]; exact W.few, fun xs m => ?_⟩
  all_goals obtain ⟨ys, hy, rfl⟩ := List.mem_map.mp m
  · rw [List.length_map]
    exact W.lt ys hy t (List.mem_filter.mp ht).1
  · exact Nat.le_trans (List.length_filter_le _ _) (W.deg ys hy)
end
/-! ### postdominators -/
theorem rows_dpAll {K : PySem.W.Frag} {H : Hp} : ∀ (rs : List Addr) (xss : List (List Int)), rs.length = xss.length → (∀ (k : Nat) (r : Addr) (xs : List Int), rs[k]? = some r → xss[k]? = some xs → H r = some (.lst (xs.map V.int))) →
    DpAll K H (rs.map V.ref) (xss.map fun xs => PyData.list (xs.map PyData.int))
  | [], [], _, _ => .nil
  | [], _ :: _, h, _ => by cases h
  | _ :: _, [], h, _ => by cases h
  | r :: rs, x :: xss, h, hr => .cons (.lst (SqL.of (hr 0 r x rfl rfl)) (DpAll.ints x)) (rows_dpAll rs xss (Nat.succ.inj h) fun k a ys f1 f2 => hr (k + 1) a ys f1 f2)
theorem DpAll.app {K : PySem.W.Frag} {H : Hp} : ∀ {vs us : List V} {ds es : List PyData}, DpAll K H vs ds → DpAll K H us es → DpAll K H (vs ++ us) (ds ++ es)
  | _, _, _, _, .nil, h => h
  | _, _, _, _, .cons h r, q => .cons h (DpAll.app r q)
theorem cutHead (xs : List V) (n : Nat) (h : n ≤ xs.length) : cutV xs none (some (n : Int)) = xs.take n := by
  unfold cutV
  rw [HT.sIx_nat, HT.sIx_none]
  simp [Nat.min_eq_left h]
theorem revs_D (xss : List (List Int)) : rowsD (revs xss) = .list ((comes xss).map (fun xs => PyData.list (xs.map PyData.int)) ++ [.list ((exI xss).map PyData.int)]) := by
  unfold rowsD revs
  rw [List.map_append]; rfl
theorem fwds_D (xss : List (List Int)) : rowsD (fwds xss) = .list ((fw1 xss (exOf xss)).map (fun xs => PyData.list (xs.map PyData.int)) ++ [.list []]) := by
  unfold rowsD fwds
  rw [List.map_append]; rfl
def sp_postdominators (K : PySem.W.Frag) : Sp := fun vs H Q _ => ∃ (v : V) (d1 d2 d3 : PyData) (nodes es : List PyData), vs = [v] ∧ Dp K H v (.tuple [d1, d2, d3, .tuple nodes]) ∧ NodesOk nodes es ∧ FlowWays (es.map tgts) ∧
  ∀ F H' f, Same H H' → H F = none → PdOk (es.map tgts) f → H' F = some (.lst (pdV f (es.map tgts).length)) → Q (.ref F) H'
theorem ok_postdominators (T : Tx w K mg) : FnOk P w K mg base CX0 4 T.a_postdominators T.d_postdominators ["graph"] (sp_postdominators K) := by
  refine T.F_postdominators.ok sc_postdominators (fun vs H Q E h => ?_) (fun cdv A outer s H vs Q E hr h => ?_)
  · obtain ⟨v, _, _, _, _, _, rfl, _⟩ := h
    rfl
  · obtain ⟨v, d1, d2, d3, nodes, es, rfl, dv, N, FW, k⟩ := h
    refine ⟨_, (pss_cons (ps_asg (pe_tup (pa_cons (pe_call (ok_leads_to T) (hr.mono (by decide)) (by rfl) T.g_leads_to T.F_leads_to.kp T.b_leads_to .nil pass0 (pa_cons (pv 0) pa_nil)) (pa_cons (pe_call (ok_comes_from T) (hr.mono (by decide)) (by rfl) T.g_comes_from T.F_comes_from.kp T.b_comes_from .nil pass0 (pa_cons (pv 0) pa_nil)) pa_nil))) (pg_tup rfl (pgs_cons (pg_name (i := 1) sc_postdominators.nd rfl (.inr rfl)) (pgs_cons (pg_name (i := 2) sc_postdominators.nd rfl (.inl rfl)) pgs_nil))))
      (pss_cons (ps_set (i := 3) sc_postdominators.nd rfl (.inr rfl) (pe_callB call_len_seq (by rfl) T.z_len (by decide +kernel) (pa_cons (pv 1) pa_nil)))
      (pss_cons (ps_setLc (i := 5) (own := [("node", 4)]) (g := gName 4)  rfl sc_postdominators.nd rfl rfl (sw_true rfl rfl rfl (by decide +kernel)) (pi_range1 (by rfl) T.z_range (pa_cons (pv 3) pa_nil)) (blkOk_by (N := ["graph", "ways", "origins", "last", "node", "exits", "found"]) (sc := defScope s_postdominators) (by decide +kernel)) (fun _ _ _ _ _ => (pg_name (i := 4) sc_postdominators.nd rfl (.inl rfl))) (fun _ _ _ _ _ => (pts_one (pt_cmpR op_eq (pe_callB (show CallR _ _ (rLenS K) from call_len_seq) (by rfl) T.z_len (by decide +kernel) (pa_cons (pe_ix (show IxR _ (rIxL K) from ix_list) (pv 1) (pv 4) (fun _ _ => rfl)) pa_nil)) pe_int (nomark _)))) (fun _ _ _ _ _ => (pv 4)))
      (pss_cons (ps_for PassesOwn.never rfl (pi_list (pv 5)) (pg_name (i := 4) sc_postdominators.nd rfl (.inl rfl)) (pss_one (ps_expr (pe_bm PySem.F.plainAttrs_list PySem.F.slot_list_append PySem.F.type_list_append mt_append (pe_ix ix_list (pv 1) (pv 4) (fun _ _ => rfl)) (pa_cons (pv 3) pa_nil)))))
      (pss_cons (ps_set (i := 6) sc_postdominators.nd rfl (.inl rfl) (pe_call (ok_immediate_ones T) (hr.mono (by decide)) (by rfl) T.g_immediate_ones T.F_immediate_ones.kp T.b_immediate_ones .nil pass0 (pa_cons (pv 3) (pa_cons (pe_op op_cat (pv 2) (pe_lst (pa_cons (pv 5) pa_nil))) (pa_cons (pe_op op_cat (pv 1) (pe_lst (pa_cons (pe_lst pa_nil) pa_nil))) pa_nil)))))
      (pss_one (ps_ret (pe_lc (own := [("node", 4)]) (g := gName 4) (tt := tYes) rfl sc_postdominators.nd (pi_list (pe_slice sl_list (pv 6) po_none (po_some (pv 3)))) (blkOk_by (N := ["graph", "ways", "origins", "last", "node", "exits", "found"]) (sc := defScope s_postdominators) (by decide +kernel)) (fun _ _ _ _ _ => (pg_name (i := 4) sc_postdominators.nd rfl (.inl rfl))) (fun _ _ _ _ _ => pts_nil) (fun _ _ _ _ _ => (pe_ifExp (pt_cmpR op_eq (pv 4) (pv 3) (nomark _)) (pe_gq (by rfl) T.q_NO_NODE) (pv 4))))))))))), ?_⟩
    refine ⟨_, rfl, _, d1, d2, d3, nodes, es, rfl, dv, N, fun R1 r1 H1 s1 n1 W1 => ?_⟩
    refine ⟨_, rfl, _, d1, d2, d3, nodes, es, rfl, dv.same s1, N, FW.ok, fun R2 r2 H2 s2 n2 W2 => ?_⟩
    have FWo := FW
    generalize hX : es.map tgts = xss at W1 W2 FW k
    have W12 := W1.same s2
    refine ⟨by walk_at "size", fun TA nT => ?_⟩
    have s3 := same_new5 (o := .tup [.ref R1, .ref R2]) nT
    have hT3 : L2.upd H2 TA (.tup [.ref R1, .ref R2]) TA = some (.tup [.ref R1, .ref R2]) := upd_same
    generalize L2.upd H2 TA (.tup [.ref R1, .ref R2]) = H3 at s3 hT3 ⊢
    refine ⟨_, _, rfl, SqT.of hT3, rfl, _, _, rfl, _, _, rfl, rfl, ?_⟩
    have W13 := W12.same s3
    have W23 := W2.same s3
    have small := FW.small
    have rl := W13.len
    refine ⟨_, rfl, _, _, rfl, .inl (SqL.of W13.top), ?_⟩
    have hn : ((List.map V.ref r1).length : Int) = (xss.length : Int) := by rw [List.length_map, rl]
    rw [hn]
    -- the exits
    refine ⟨_, rfl, (xss.length : Int), rfl, by omega, by omega, fun EA nE => ?_⟩
    refine lc_range (n := (xss.length : Int).toNat) (fun i H' => Same H3 H' ∧ i ≤ xss.length ∧ H' EA = some (.lst (natV ((List.range i).filter fun a => decide (xss.getD a [] = [])))))
      ⟨same_new5 nE, Nat.zero_le _, upd_same⟩ ?_ ?_
    · rintro i H4 hi ⟨s4, hi2, hE⟩
      have hix : i < xss.length := by omega
      have gX : xss.getD i [] = xss[i] := by rw [List.getD_eq_getElem?_getD, List.getElem?_eq_getElem hix]; rfl
      obtain ⟨r, e1, e2, e3, e4⟩ := (W13.same s4).at (List.getElem?_eq_getElem hix)
      rw [Int.zero_add]
      refine ⟨rfl, _, rfl, _, rfl, _, _, _, _, rfl, rfl, e2, e3, _, _, rfl, .inl (SqL.of e4), rfl, _, rfl, ?_⟩
      have ln : ((List.range i).filter fun a => decide (xss.getD a [] = [])).length ≤ i := Nat.le_trans (List.length_filter_le _ _) (by rw [List.length_range]; exact Nat.le_refl _)
      have st : (List.range (i + 1)).filter (fun a => decide (xss.getD a [] = [])) = (List.range i).filter (fun a => decide (xss.getD a [] = [])) ++ (if xss.getD i [] = [] then [i] else []) := by
        rw [List.range_succ, List.filter_append]
        congr 1
        by_cases z : xss.getD i [] = []
        · rw [if_pos z, List.filter_cons_of_pos (p := fun a => decide (xss.getD a [] = [])) (decide_eq_true z)]; rfl
        · rw [if_neg z, List.filter_cons_of_neg (p := fun a => decide (xss.getD a [] = [])) (by rw [decide_eq_false z]; exact Bool.false_ne_true)]; rfl
      by_cases z : xss.getD i [] = []
      · have e0 : V.int ((List.map V.int xss[i]).length : Int) = V.int 0 := by rw [← gX, z]; rfl
        rw [decide_eq_true e0]
        refine iteT ⟨_, rfl, _, hE, small1000 (by rw [natV_len]; omega), same_upd s4 nE, by omega, ?_⟩
        rw [upd_same, st, if_pos z, natV_snoc]
      · have e0 : ¬ V.int ((List.map V.int xss[i]).length : Int) = V.int 0 := fun q => z (by
          injection q with q
          rw [List.length_map] at q
          rw [gX]
          exact List.length_eq_zero_iff.mp (by omega))
        rw [decide_eq_false e0]
        refine iteF ⟨s4, by omega, ?_⟩
        rw [st, if_neg z, List.append_nil]; exact hE
    rintro H4 ⟨s4, _, hE⟩
    rw [Int.toNat_natCast] at hE
    have hE' : H4 EA = some (.lst (natV (exOf xss))) := hE
    clear hE
    have s34 := s3.trans s4
    have W24 := W23.same s4
    have W14 := W13.same s4
    -- the exits lead to the last one
    have nE3 : EA ∉ R1 :: r1 := fun m => by
      have : H3 EA ≠ none := by
        rcases List.mem_cons.mp m with m | m
        · rw [m, W13.top]; intro x; cases x
        · obtain ⟨j, hj, e⟩ := List.getElem_of_mem m
          have hj2 : j < xss.length := by rw [← rl]; exact hj
          rw [← e, W13.row j _ _ (List.getElem?_eq_getElem hj) (List.getElem?_eq_getElem hj2)]
          intro x; cases x
      exact this nE
    have ap2 : ∀ b ∈ R2 :: r2, b ∉ R1 :: r1 := fun b m2 m => by
      have z := n2 b m2
      rcases List.mem_cons.mp m with m | m
      · rw [m, W1.top] at z; cases z
      · obtain ⟨j, hj, e⟩ := List.getElem_of_mem m
        have hj2 : j < xss.length := by rw [← rl]; exact hj
        rw [← e, W1.row j _ _ (List.getElem?_eq_getElem hj) (List.getElem?_eq_getElem hj2)] at z
        cases z
    have nd := List.nodup_cons.mp W14.nd
    refine ⟨_, rfl, EA, rfl, ⟨_, SqL.of hE'⟩, for_list (K := K) (a := EA) (xs := natV (exOf xss)) (fun i σ H' => ∃ y4, σ = [some v, some (.ref R1), some (.ref R2), some (.int (xss.length : Int)), y4, some (.ref EA), none] ∧ (∀ b o, b ∉ r1 → H4 b = some o → H' b = some o) ∧ Rows H' R1 r1 (fw1 xss ((exOf xss).take i)))
      ⟨none, rfl, fun _ _ _ h => h, by rw [List.take_zero, fw1_nil]; exact W14⟩ (fun i σ H' _ ⟨_, _, kp, _⟩ => SqL.of (kp _ _ (fun m => nE3 (.tail _ m)) hE')) ?_ ?_⟩
    · rintro i x σ H5 hx ⟨y4, rfl, kp, W5⟩
      unfold natV at hx
      rw [List.getElem?_map] at hx
      cases he : (exOf xss)[i]? with
      | none => rw [he] at hx; cases hx
      | some e =>
      rw [he] at hx
      cases hx
      have em := mem_exOf.mp (List.mem_of_getElem? he)
      have il := (List.getElem?_eq_some_iff.mp he).1
      have ne : e ∉ (exOf xss).take i := fun m => by
        obtain ⟨j, hj, q⟩ := List.getElem_of_mem m
        rw [List.length_take] at hj
        rw [List.getElem_take] at q
        have h1 : (exOf xss)[j]? = some e := by rw [List.getElem?_eq_getElem (by omega), q]
        have := (List.getElem?_inj (List.getElem?_eq_some_iff.mp h1).1 exOf_nodup).mp (h1.trans he.symm)
        omega
      have rowe : (fw1 xss ((exOf xss).take i))[e]? = some (xss.getD e []) := by rw [fw1_at em.1, if_neg ne]
      obtain ⟨r, e1, e2, e3, e4⟩ := W5.at rowe
      have tk : (exOf xss).take (i + 1) = (exOf xss).take i ++ [e] := by rw [List.take_succ, he]; rfl
      have dl : (xss.getD e []).length ≤ 500 := (FW.waysIn.row e).1
      refine ⟨_, rfl, _, rfl, _, _, _, _, rfl, rfl, e2, e3, .inl ⟨rfl, _, SqL.of e4⟩, _, rfl, _, _, _, rfl, rfl, e4, small1000 (by rw [List.length_map]; omega), ?_⟩
      have W6 := W5.app (v := (xss.length : Int)) e1 rowe
      rw [fw1_snoc em.1 ne, ← tk] at W6
      refine ⟨_, rfl, fun b o nb h => ?_, W6⟩
      rw [upd_ne (fun z => nb (by rw [z]; exact List.mem_of_getElem? e1))]
      exact kp b o nb h
    · rintro σ H5 ⟨y4, rfl, kp, W5⟩
      rw [natV_len, List.take_length] at W5
      have W25 : Rows H5 R2 r2 (comes xss) := W24.keep fun b m o h => kp b o (fun q => ap2 b m (.tail _ q)) h
      have hE5 := kp _ _ (fun m => nE3 (.tail _ m)) hE'
      have s05 : Same H H5 := fun b o h => by
        refine kp b o (fun m => ?_) ((((s1.trans s2).trans s3).trans s4) b o h)
        have := n1 b (.tail _ m)
        rw [h] at this
        cases this
      -- the rows of the call
      refine ⟨_, rfl, _, rfl, _, rfl, by walk_at "size", fun L1 nL1 => ?_⟩
      have t1 := same_new5 (o := .lst [.ref EA]) nL1
      have v1 : L2.upd H5 L1 (.lst [.ref EA]) L1 = some (.lst [.ref EA]) := upd_same
      generalize L2.upd H5 L1 (.lst [.ref EA]) = H6 at t1 v1 ⊢
      have cl : (comes xss).length = xss.length := comes_len xss
      refine ⟨R2, L1, _, _, rfl, rfl, t1 _ _ W25.top, v1, Nat.le_of_lt (small1000 (by have := W25.len; simp only [List.length_map, List.length_singleton]; omega)), fun L2a nL2 => ?_⟩
      have t2 := same_new5 (o := .lst (List.map V.ref r2 ++ [.ref EA])) nL2
      have v2 : L2.upd H6 L2a (.lst (List.map V.ref r2 ++ [.ref EA])) L2a = some (.lst (List.map V.ref r2 ++ [.ref EA])) := upd_same
      generalize L2.upd H6 L2a (.lst (List.map V.ref r2 ++ [.ref EA])) = H7 at t2 v2 ⊢
      refine ⟨_, rfl, by walk_at "size", fun L3 nL3 => ⟨by walk_at "size", fun L4 nL4 => ?_⟩⟩
      have t3 := (same_new5 (o := .lst []) nL3)
      have v3 : L2.upd H7 L3 (.lst []) L3 = some (.lst (([] : List Int).map V.int)) := upd_same
      generalize L2.upd H7 L3 (.lst []) = H8 at t3 v3 nL4 ⊢
      have t4 := (same_new5 (o := .lst [.ref L3]) nL4)
      have v4 : L2.upd H8 L4 (.lst [.ref L3]) L4 = some (.lst [.ref L3]) := upd_same
      generalize L2.upd H8 L4 (.lst [.ref L3]) = H9 at t4 v4 ⊢
      have t59 := ((t1.trans t2).trans t3).trans t4
      have W19 := W5.same t59
      have W29 := W25.same t59
      refine ⟨R1, L4, _, _, rfl, rfl, W19.top, v4, Nat.le_of_lt (small1000 (by have := W19.len; rw [fw1_len] at this; simp only [List.length_map, List.length_singleton]; omega)), fun L5 nL5 => ?_⟩
      have t5 := same_new5 (o := .lst (List.map V.ref r1 ++ [.ref L3])) nL5
      have v5 : L2.upd H9 L5 (.lst (List.map V.ref r1 ++ [.ref L3])) L5 = some (.lst (List.map V.ref r1 ++ [.ref L3])) := upd_same
      generalize L2.upd H9 L5 (.lst (List.map V.ref r1 ++ [.ref L3])) = HA at t5 v5 ⊢
      have t5A := t59.trans t5
      have hvA := (((t3.trans t4).trans t5) _ _ v2)
      have dR : Dp K HA (.ref L2a) (rowsD (revs xss)) := by
        rw [revs_D]
        refine .lst (SqL.of hvA) (DpAll.app (rows_dpAll r2 _ W29.len fun k a ys f1 f2 => t5 _ _ (W29.row k a ys f1 f2)) (.cons (.lst (SqL.of (t5A _ _ hE5)) ?_) .nil))
        have : natV (exOf xss) = (exI xss).map V.int := by unfold natV exI; rw [List.map_map]; rfl
        rw [this]
        exact DpAll.ints _
      have dF : Dp K HA (.ref L5) (rowsD (fwds xss)) := by
        rw [fwds_D]
        exact .lst (SqL.of v5) (DpAll.app (rows_dpAll r1 _ W19.len fun k a ys f1 f2 => t5 _ _ (W19.row k a ys f1 f2)) (.cons (.lst (SqL.of ((t4.trans t5) _ _ v3)) .nil) .nil))
      refine ⟨xss.length, _, _, _, _, rfl, dR, dF, FW.revsIn, FW.fwdsIn, by rw [revs_len]; omega, FW.orgBack, fun F HB ord O f sB nF Tf ff ex hF => ?_⟩
      rw [revs_len] at hF
      have sHB := (s05.trans t5A).trans sB
      have nF0 := none_of (s05.trans t5A) nF
      -- what is told
      have hF2 : ((foundV f (xss.length + 1)).set xss.length (.int (-1))).length = xss.length + 1 := by rw [List.length_set, foundV_len]
      refine ⟨_, rfl, _, rfl, _, rfl, F, _, rfl, SqL.of hF, fun SA nS => ?_⟩
      rw [cutHead _ _ (by rw [hF2]; omega)]
      have cut : ((foundV f (xss.length + 1)).set xss.length (.int (-1))).take xss.length = foundV f xss.length := by
        refine List.ext_getElem? fun i => ?_
        rw [List.getElem?_take]
        by_cases hi : i < xss.length
        · rw [if_pos hi, List.getElem?_set_ne (by omega), foundV_at (by omega), foundV_at hi]
        · rw [if_neg hi, List.getElem?_eq_none (by rw [foundV_len]; omega)]
      rw [cut]
      have s6 := same_new5 (o := .lst (foundV f xss.length)) nS
      have hS6 : L2.upd HB SA (.lst (foundV f xss.length)) SA = some (.lst (foundV f xss.length)) := upd_same
      generalize L2.upd HB SA (.lst (foundV f xss.length)) = HC at s6 hS6 ⊢
      refine ⟨SA, rfl, ⟨_, SqL.of hS6⟩, fun PA nP => ?_⟩
      have nP0 := none_of (sHB.trans s6) nP
      refine lc_list (K := K) (a := SA) (xs := foundV f xss.length) (fun i H' => Same HC H' ∧ H' PA = some (.lst ((pdV f xss.length).take i)))
        ⟨same_new5 nP, upd_same⟩ (fun i H' _ h => h.1.seq (SqL.of hS6)) ?_ ?_
      · rintro i x HD hx ⟨s7, hP⟩
        have hi := (List.getElem?_eq_some_iff.mp hx).1
        rw [foundV_len] at hi
        rw [foundV_at hi] at hx
        cases hx
        have pl : ((pdV f xss.length).take i).length ≤ 400 := by rw [List.length_take, pdV_len]; omega
        have tk : (pdV f xss.length).take (i + 1) = (pdV f xss.length).take i ++ [.int (pdX xss.length f i)] := by rw [List.take_succ, pdV_at hi]; rfl
        refine ⟨rfl, _, rfl, _, rfl, ?_⟩
        refine ⟨rfl, _, rfl, ?_⟩
        by_cases z : fv f i = (xss.length : Int)
        · have e0 : V.int (fv f i) = V.int (xss.length : Int) := by rw [z]
          rw [decide_eq_true e0]
          refine iteT ⟨_, hP, small1000 (by omega), same_upd s7 nP, ?_⟩
          rw [upd_same, tk]
          unfold pdX
          rw [if_pos z]
        · have e0 : ¬ V.int (fv f i) = V.int (xss.length : Int) := fun q => z (by injection q)
          rw [decide_eq_false e0]
          refine iteF ⟨_, rfl, _, hP, small1000 (by omega), same_upd s7 nP, ?_⟩
          rw [upd_same, tk]
          unfold pdX
          rw [if_neg z]
      · rintro HD ⟨s7, hP⟩
        rw [foundV_len, List.take_of_length_le (by rw [pdV_len]; exact Nat.le_refl _)] at hP
        exact k PA HD f ((sHB.trans s6).trans s7) nP0 ⟨ord, O, Tf, ff, ex⟩ hP
/-! ### region -/
theorem DcOk.sortedI {H : Hp} {d : Addr} {n : Nat} {S : Nat → Prop} (h : DcOk H d n S) (n60 : n < 60) : ∃ (kvs : List (Key × V)) (ks : List Int), H d = some (.dK kvs) ∧ kvs.map (·.1) = ks.map Sum.inl ∧ ks.length < 64 ∧
    ∀ ys : List Int, ys.Perm ks → ys.Pairwise (· ≤ ·) → ys.Pairwise (· < ·) ∧ ∀ t, t ∈ ys ↔ ∃ v : Nat, t = (v : Int) ∧ v < n ∧ S v := by
  obtain ⟨kvs, ks, h1, h2, h3, h4, h5⟩ := h
  have kl := few_below _ _ h3 h4
  refine ⟨kvs, ks.map fun b => ((b : Nat) : Int), h1, by rw [h2, List.map_map]; rfl, by rw [List.length_map]; omega, fun ys perm pw => ?_⟩
  have ynd : ys.Nodup := perm.nodup_iff.mpr (List.pairwise_map.mpr (h3.imp fun {x y} h e => h (by have e' : (x : Int) = (y : Int) := e; omega)))
  refine ⟨(List.pairwise_and_iff.mpr ⟨pw, ynd⟩).imp fun {x y} h => by have h1 := h.1; have h2 := h.2; omega, fun x => ?_⟩
  rw [perm.mem_iff, List.mem_map]
  constructor
  · rintro ⟨b, m, rfl⟩; exact ⟨b, rfl, h4 b m, (h5 b).mp m⟩
  · rintro ⟨b, rfl, bl, g⟩; exact ⟨b, (h5 b).mpr g, rfl⟩
theorem kept_get (w : Int) {xss : List (List Int)} {i : Nat} (h : i < xss.length) : (keptW w xss)[i]? = some ((xss.getD i []).filter fun t => decide (t ≠ w)) := by
  unfold keptW
  rw [List.getElem?_map, List.getD_eq_getElem?_getD, List.getElem?_eq_getElem h]; rfl
theorem kept_len (w : Int) (xss : List (List Int)) : (keptW w xss).length = xss.length := by unfold keptW; rw [List.length_map]
def sp_region (K : PySem.W.Frag) : Sp := fun vs H Q _ => ∃ (v : V) (b : Nat) (d1 d2 d3 : PyData) (nodes es : List PyData), vs = [v, .int (b : Int)] ∧ Dp K H v (.tuple [d1, d2, d3, .tuple nodes]) ∧ NodesOk nodes es ∧ FlowWays (es.map tgts) ∧ b < (es.map tgts).length ∧ (es.map tgts).length < 60 ∧
  ∀ R H' f (ys : List Int), Same H H' → H R = none → PdOk (es.map tgts) f → H' R = some (.lst (ys.map V.int)) → ys.Pairwise (· < ·) → (∀ t, t ∈ ys ↔ ∃ v : Nat, t = (v : Int) ∧ v < (es.map tgts).length ∧ Rch (es.map tgts) (pdX (es.map tgts).length f b) ((es.map tgts).getD b []) v) → Q (.ref R) H'
theorem ok_region (T : Tx w K mg) : FnOk P w K mg base CX0 5 T.a_region T.d_region ["graph", "b"] (sp_region K) := by
  refine T.F_region.ok sc_region (fun vs H Q E h => ?_) (fun cdv A outer s H vs Q E hr h => ?_)
  · obtain ⟨v, b, _, _, _, _, _, rfl, _⟩ := h
    rfl
  · obtain ⟨v, b, d1, d2, d3, nodes, es, rfl, dv, N, FW, hb, n60, k⟩ := h
    refine ⟨_, (pss_cons (ps_set (i := 2) sc_region.nd rfl (.inl rfl) (pe_call (ok_leads_to T) (hr.mono (by decide)) (by rfl) T.g_leads_to T.F_leads_to.kp T.b_leads_to .nil pass0 (pa_cons (pv 0) pa_nil)))
      (pss_cons (ps_set (i := 3) sc_region.nd rfl (.inr rfl) (pe_ix ix_list (pe_call (ok_postdominators T) (hr.mono (by decide)) (by rfl) T.g_postdominators T.F_postdominators.kp T.b_postdominators .nil pass0 (pa_cons (pv 0) pa_nil)) (pv 1) (fun _ _ => rfl)))
      (pss_cons (ps_setLc (i := 4) (own := [("targets", 5)]) (g := gName 5) (tt := tYes) rfl sc_region.nd rfl rfl (sw_true rfl rfl rfl (by decide +kernel)) (pi_list (pv 2)) (blkOk_by (N := ["graph", "b", "ways", "join", "kept", "targets", "target"]) (sc := defScope s_region) (by decide +kernel)) (fun _ _ _ _ _ => (pg_name (i := 5) sc_region.nd rfl (.inl rfl))) (fun _ _ _ _ _ => pts_nil) (fun _ _ _ _ _ => (by refine pe_lc (wi := iList K (tVar 5)) (own := [("target", 6)]) (g := gName 6)  rfl sc_region.nd ?_ (blkOk_by (N := ["graph", "b", "ways", "join", "kept", "targets", "target"]) (by kernel_rfl)) (fun _ _ _ _ _ => (pg_name (i := 6) sc_region.nd rfl (.inl rfl))) (fun _ _ _ _ _ => (pts_one (pt_cmpR op_ne (pv 6) (pv 3) (nomark _)))) (fun _ _ _ _ _ => (pv 6)); exact (pi_list (pv 5)))))
      (pss_one (ps_ret (pe_callB (call_sortedDI rfl) (by rfl) T.z_sorted (by decide +kernel) (pa_cons (pe_call (ok_reached T) (hr.mono (by decide)) (by rfl) T.g_reached T.F_reached.kp T.b_reached .nil pass0 (pa_cons (pv 4) (pa_cons (pe_ix ix_list (pv 4) (pv 1) (fun _ _ => rfl)) pa_nil))) pa_nil))))))), ?_⟩
    refine ⟨_, rfl, _, d1, d2, d3, nodes, es, rfl, dv, N, fun R1 r1 H1 s1 n1 W1 => ?_⟩
    refine ⟨_, rfl, _, d1, d2, d3, nodes, es, rfl, dv.same s1, N, FW, fun F H2 f s2 nF PO hF => ?_⟩
    generalize hX : es.map tgts = xss at W1 FW PO hF k hb n60
    refine ⟨_, rfl, _, _, _, _, rfl, rfl, SqL.of hF, atI_nat (pdV_at hb), ?_⟩
    have W2 := W1.same s2
    have rl := W2.len
    have s12 := s1.trans s2
    refine ⟨_, rfl, R1, rfl, ⟨_, SqL.of W2.top⟩, fun KA nK => ?_⟩
    generalize hw : pdX xss.length f b = wt at k
    refine lc_list (K := K) (a := R1) (xs := r1.map V.ref) (fun i H' => ∃ rs, Same H2 H' ∧ (∀ b ∈ KA :: rs, H2 b = none) ∧ Rows H' KA rs ((keptW wt xss).take i))
      ⟨[], same_new5 nK, (fun c hc => by rw [List.mem_singleton.mp hc]; exact nK), .nil upd_same⟩ (fun i H' _ ⟨_, s3, _⟩ => SqL.of (s3 _ _ W2.top)) ?_ ?_
    · rintro i x H3 hx ⟨rs, s3, hn, W3⟩
      rw [List.getElem?_map] at hx
      cases hr1 : r1[i]? with
      | none => rw [hr1] at hx; cases hx
      | some r =>
      rw [hr1] at hx
      cases hx
      have hi : i < xss.length := by rw [← rl]; exact (List.getElem?_eq_some_iff.mp hr1).1
      have gX : xss.getD i [] = xss[i] := by rw [List.getD_eq_getElem?_getD, List.getElem?_eq_getElem hi]; rfl
      have row := s3 _ _ (W2.row i r _ hr1 (List.getElem?_eq_getElem hi))
      rw [← gX] at row
      have dl : (xss.getD i []).length ≤ 500 := (FW.waysIn.row i).1
      have tk : (keptW wt xss).take (i + 1) = (keptW wt xss).take i ++ [(xss.getD i []).filter fun t => decide (t ≠ wt)] := by rw [List.take_succ, kept_get wt hi]; rfl
      generalize xss.getD i [] = xs at row dl tk
      refine ⟨rfl, _, rfl, r, rfl, ⟨_, SqL.of row⟩, fun C nC => ?_⟩
      refine lc_list (K := K) (a := r) (xs := xs.map V.int) (fun j H' => Same H3 H' ∧ H' C = some (.lst (((xs.take j).filter fun t => decide (t ≠ wt)).map V.int)))
        ⟨same_new5 nC, upd_same⟩ (fun j H' _ h => h.1.seq (SqL.of row)) ?_ ?_
      · rintro j x H4 hx ⟨s4, hC⟩
        rw [List.getElem?_map] at hx
        cases ht : xs[j]? with
        | none => rw [ht] at hx; cases hx
        | some t =>
        rw [ht] at hx
        cases hx
        have tk2 : xs.take (j + 1) = xs.take j ++ [t] := by rw [List.take_succ, ht]; rfl
        have fl : ((xs.take j).filter fun t => decide (t ≠ wt)).length ≤ 500 := Nat.le_trans (List.length_filter_le _ _) (by rw [List.length_take]; omega)
        refine ⟨rfl, _, rfl, _, rfl, rfl, _, rfl, ?_⟩
        by_cases z : t = wt
        · rw [z, decide_eq_true rfl]
          refine iteF ⟨s4, ?_⟩
          rw [tk2, List.filter_append, List.filter_cons_of_neg (by simp [z]), List.filter_nil, List.append_nil]
          exact hC
        · rw [decide_eq_false (fun e => z (by injection e))]
          refine iteT ⟨_, rfl, _, hC, small1000 (by rw [List.length_map]; omega), same_upd s4 nC, ?_⟩
          rw [upd_same, tk2, List.filter_append, List.filter_cons_of_pos (by simp [z]), List.filter_nil, List.map_append]
          rfl
      · rintro H4 ⟨s4, hC⟩
        rw [List.length_map, List.take_length] at hC
        have W4 := W3.same s4
        refine ⟨_, W4.top, small1000 (by rw [List.length_map, W3.len, List.length_take, kept_len]; omega), rs ++ [C], same_upd (s3.trans s4) nK, fun c hc => ?_, ?_⟩
        · rcases List.mem_cons.mp hc with hc | hc
          · rw [hc]; exact nK
          · rcases List.mem_append.mp hc with hc | hc
            · exact hn c (.tail _ hc)
            · rw [List.mem_singleton.mp hc]; exact none_of s3 nC
        · rw [tk]
          exact W3.push' s4 nC hC
    · rintro H3 ⟨rs, s3, hn, W3⟩
      have e1 : (keptW wt xss).take (List.map V.ref r1).length = keptW wt xss := List.take_of_length_le (by rw [kept_len, List.length_map, rl]; exact Nat.le_refl _)
      rw [e1] at W3
      have hbk : b < (keptW wt xss).length := by rw [kept_len]; exact hb
      obtain ⟨r, q1, q2, q3, q4⟩ := W3.at (List.getElem?_eq_getElem hbk)
      have gK : (keptW wt xss).getD b [] = (keptW wt xss)[b] := by rw [List.getD_eq_getElem?_getD, List.getElem?_eq_getElem hbk]; rfl
      rw [← gK] at q4
      have WK := FW.waysIn.kept (w := wt)
      refine ⟨_, rfl, _, rfl, _, rfl, _, _, _, _, rfl, rfl, q2, q3, ?_⟩
      refine ⟨_, r, keptW wt xss, (keptW wt xss).getD b [], rfl, W3.dp, SqL.of q4, WK, (WK.row b).2, (WK.row b).1, fun D H4 s4 nD DC => ?_⟩
      rw [kept_len] at DC
      obtain ⟨kvs, ks, k1, k2, k3, k4⟩ := DC.sortedI n60
      refine ⟨D, kvs, ks, rfl, Rd.of k1, k2, k3, fun ys t perm pw nt => ?_⟩
      obtain ⟨y1, y2⟩ := k4 ys perm pw
      have s14 := (s12.trans s3).trans s4
      refine k t _ f ys (s14.trans (same_new5 nt)) (none_of s14 nt) PO upd_same y1 fun x => (y2 x).trans ?_
      rw [hw]
      exact ⟨fun ⟨v, a1, a2, a3⟩ => ⟨v, a1, a2, rch_kept.mp a3⟩, fun ⟨v, a1, a2, a3⟩ => ⟨v, a1, a2, rch_kept.mpr a3⟩⟩
structure Rst (xss : List (List Int)) (w : Int) (st : List Int) (fl : List Nat) (ws : List Int) : Prop where
  nd : fl.Nodup
  lt : ∀ v ∈ fl, v < xss.length
  sound : ∀ v ∈ fl, Rch xss w st v
  wait : ∀ t ∈ ws, ∃ v : Nat, t = (v : Int) ∧ v < xss.length ∧ Rch xss w st v
  begin_ : ∀ t ∈ st, t ≠ w → t.toNat ∈ fl ∨ t ∈ ws
  next : ∀ v ∈ fl, ∀ t ∈ xss.getD v [], t ≠ w → t.toNat ∈ fl ∨ t ∈ ws
theorem Rst.fin {xss : List (List Int)} {w : Int} {st : List Int} {fl : List Nat} (R : Rst xss w st fl []) (v : Nat) : v ∈ fl ↔ Rch xss w st v := by
  refine ⟨R.sound v, fun h => ?_⟩
  induction h with
  | @start v m ne =>
    rcases R.begin_ _ m ne with h | h
    · rw [Int.toNat_natCast] at h; exact h
    · cases h
  | @step u v _ m ne ih =>
    rcases R.next u ih _ m ne with h | h
    · rw [Int.toNat_natCast] at h; exact h
    · cases h
theorem Rst.old {xss : List (List Int)} {w : Int} {st : List Int} {fl : List Nat} {ws : List Int} {u : Nat} (R : Rst xss w st fl (ws ++ [(u : Int)])) (h : u ∈ fl) : Rst xss w st fl ws := by
  have f : ∀ t : Int, t ∈ ws ++ [(u : Int)] → t.toNat ∈ fl ∨ t ∈ ws := fun t m => by
    rcases List.mem_append.mp m with m | m
    · exact .inr m
    · rw [List.mem_singleton.mp m, Int.toNat_natCast]; exact .inl h
  exact ⟨R.nd, R.lt, R.sound, fun t m => R.wait t (List.mem_append_left _ m), fun t m ne => (R.begin_ t m ne).elim .inl (f t), fun v hv t m ne => (R.next v hv t m ne).elim .inl (f t)⟩
theorem Rst.add {xss : List (List Int)} {w : Int} {st : List Int} {fl : List Nat} {ws : List Int} {u : Nat} (WI : WaysIn xss) (R : Rst xss w st fl (ws ++ [(u : Int)])) (h : u ∉ fl) : Rst xss w st (u :: fl) (ws ++ (xss.getD u []).filter fun t => decide (t ≠ w)) := by
  obtain ⟨v, e, vl, rv⟩ := R.wait (u : Int) (by simp)
  have : v = u := by omega
  subst this
  have f : ∀ t : Int, t.toNat ∈ fl ∨ t ∈ ws ++ [(v : Int)] → t.toNat ∈ v :: fl ∨ t ∈ ws ++ (xss.getD v []).filter fun t => decide (t ≠ w) := fun t m => by
    rcases m with m | m
    · exact .inl (.tail _ m)
    · rcases List.mem_append.mp m with m | m
      · exact .inr (List.mem_append_left _ m)
      · rw [List.mem_singleton.mp m, Int.toNat_natCast]; exact .inl (.head _)
  refine ⟨List.nodup_cons.mpr ⟨h, R.nd⟩, fun x m => ?_, fun x m => ?_, fun t m => ?_, fun t m ne => f t (R.begin_ t m ne), fun x hx t m ne => ?_⟩
  · rcases List.mem_cons.mp m with rfl | m
    · exact vl
    · exact R.lt x m
  · rcases List.mem_cons.mp m with rfl | m
    · exact rv
    · exact R.sound x m
  · rcases List.mem_append.mp m with m | m
    · exact R.wait t (List.mem_append_left _ m)
    · obtain ⟨m1, m2⟩ := List.mem_filter.mp m
      obtain ⟨t0, t1⟩ := (WI.row v).2 t m1
      refine ⟨t.toNat, by omega, by omega, ?_⟩
      exact .step rv (by rw [Int.toNat_of_nonneg t0]; exact m1) (by rw [Int.toNat_of_nonneg t0]; exact of_decide_eq_true m2)
  · rcases List.mem_cons.mp hx with rfl | hx
    · exact .inr (List.mem_append_right _ (List.mem_filter.mpr ⟨m, decide_eq_true ne⟩))
    · exact f t (R.next x hx t m ne)
def sp_law_reached (K : PySem.W.Frag) : Sp := fun vs H Q _ => ∃ (rv : V) (s : Addr) (w : Int) (xss : List (List Int)) (st : List Int), vs = [rv, .ref s, .int w] ∧ Dp K H rv (rowsD xss) ∧ SqL K H s (st.map V.int) ∧ WaysIn xss ∧ (∀ t ∈ st, 0 ≤ t ∧ t < xss.length) ∧ st.length ≤ 500 ∧
  ∀ D H', Same H H' → H D = none → DcOk H' D xss.length (fun v => Rch xss w st v) → Q (.ref D) H'
theorem ok_law_reached (T : Tx w K mg) : FnOk P w K mg base CX0 1 T.a_law_reached T.d_law_reached ["rows", "starts", "without"] (sp_law_reached K) := by
  refine T.F_law_reached.ok sc_law_reached (fun vs H Q E h => ?_) (fun cdv A outer s H vs Q E hr h => ?_)
  · obtain ⟨rv, s, w, xss, st, rfl, _⟩ := h
    rfl
  · obtain ⟨rv, sA, wt, xss, st, rfl, dr, hS, WI, hst, hsl, k⟩ := h
    refine ⟨_, (pss_cons (ps_set (i := 3) sc_law_reached.nd rfl (.inl rfl) (pe_dnewK))
      (pss_cons (ps_setLc (i := 5) (own := [("node", 4)]) (g := gName 4)  rfl sc_law_reached.nd rfl rfl (sw_true rfl rfl rfl (by decide +kernel)) (pi_list (pv 1)) (blkOk_by (N := ["rows", "starts", "without", "found", "node", "waiting", "other"]) (sc := defScope s_law_reached) (by decide +kernel)) (fun _ _ _ _ _ => (pg_name (i := 4) sc_law_reached.nd rfl (.inl rfl))) (fun _ _ _ _ _ => (pts_one (pt_cmpR op_ne (pv 4) (pv 2) (nomark _)))) (fun _ _ _ _ _ => (pv 4)))
      (pss_cons (ps_while PassesOwn.never (pt_cmpR op_gt (pe_callB call_len_seq (by rfl) T.z_len (by decide +kernel) (pa_cons (pv 5) pa_nil)) pe_int (nomark _)) (pss_cons (ps_set (i := 4) sc_law_reached.nd rfl (.inl rfl) (pe_bm0 PySem.F.plainAttrs_list PySem.F.slot_list_pop PySem.F.type_list_pop mt_pop (pv 5)))
      (pss_one (ps_if (pt_cmp (pc_dnotin (hu_of hr) (pv 4) (pv 3))) (pss_cons (ps_dput (hu_of hr) (pv 3) (pv 4) pe_bl rfl)
      (pss_one (ps_expr (pe_bm PySem.F.plainAttrs_list PySem.F.slot_list_extend PySem.F.type_list_extend mt_extend (pv 5) (pa_cons (pe_lc (own := [("other", 6)]) (g := gName 6)  rfl sc_law_reached.nd (pi_list (pe_ix ix_list (pv 0) (pv 4) (fun _ _ => rfl))) (blkOk_by (N := ["rows", "starts", "without", "found", "node", "waiting", "other"]) (sc := defScope s_law_reached) (by decide +kernel)) (fun _ _ _ _ _ => (pg_name (i := 6) sc_law_reached.nd rfl (.inl rfl))) (fun _ _ _ _ _ => (pts_one (pt_cmpR op_ne (pv 6) (pv 2) (nomark _)))) (fun _ _ _ _ _ => (pv 6))) pa_nil))))) pss_nil))))
      (pss_one (ps_ret (pv 3)))))), ?_⟩
    refine fun D nD => ?_
    have s1 := same_new5 (o := .dK []) nD
    have hD1 : L2.upd H D (.dK []) D = some (.dK []) := upd_same
    generalize L2.upd H D (.dK []) = H1 at s1 hD1 ⊢
    have hS1 := s1.seq hS
    refine ⟨_, rfl, _, rfl, ⟨_, hS1⟩, fun WA nW => ?_⟩
    have hDW : D ≠ WA := fun e => by rw [e, nW] at hD1; cases hD1
    have nW0 := none_of s1 nW
    refine lc_list (K := K) (a := sA) (xs := st.map V.int) (fun i H' => Same H1 H' ∧ H' WA = some (.lst (((st.take i).filter fun t => decide (t ≠ wt)).map V.int)))
      ⟨same_new5 nW, upd_same⟩ (fun i H' _ h => h.1.seq hS1) ?_ ?_
    · rintro i x H2 hx ⟨s2, hW⟩
      rw [List.getElem?_map] at hx
      cases ht : st[i]? with
      | none => rw [ht] at hx; cases hx
      | some t =>
      rw [ht] at hx
      cases hx
      have tk : st.take (i + 1) = st.take i ++ [t] := by rw [List.take_succ, ht]; rfl
      have il := (List.getElem?_eq_some_iff.mp ht).1
      have fl : ((st.take i).filter fun t => decide (t ≠ wt)).length ≤ 500 := Nat.le_trans (List.length_filter_le _ _) (by rw [List.length_take]; omega)
      refine ⟨rfl, _, rfl, _, rfl, rfl, _, rfl, ?_⟩
      by_cases z : t = wt
      · rw [z, decide_eq_true rfl]
        refine iteF ⟨s2, ?_⟩
        rw [tk, List.filter_append, List.filter_cons_of_neg (by simp [z]), List.filter_nil, List.append_nil]
        exact hW
      · rw [decide_eq_false (fun e => z (by injection e))]
        refine iteT ⟨_, rfl, _, hW, small1000 (by rw [List.length_map]; omega), same_upd s2 nW, ?_⟩
        rw [upd_same, tk, List.filter_append, List.filter_cons_of_pos (by simp [z]), List.filter_nil, List.map_append]
        rfl
    rintro H2 ⟨s2, hW⟩
    rw [List.length_map, List.take_length] at hW
    have hD2 := s2 _ _ hD1
    have s02 := s1.trans s2
    have start : Rst xss wt st [] (st.filter fun t => decide (t ≠ wt)) := by
      refine ⟨List.nodup_nil, fun v m => (by cases m), fun v m => (by cases m), fun t m => ?_, fun t m ne => .inr (List.mem_filter.mpr ⟨m, decide_eq_true ne⟩), fun v m => (by cases m)⟩
      obtain ⟨m1, m2⟩ := List.mem_filter.mp m
      obtain ⟨t0, t1⟩ := hst t m1
      exact ⟨t.toNat, by omega, by omega, .start (by rw [Int.toNat_of_nonneg t0]; exact m1) (by rw [Int.toNat_of_nonneg t0]; exact of_decide_eq_true m2)⟩
    refine while_m (fun m σ H' => ∃ (fl : List Nat) (ws : List Int) (y4 : Option V), σ = [some rv, some (.ref sA), some (.int wt), some (.ref D), y4, some (.ref WA), none] ∧ m = ws.length + (xss.length - fl.length) * 501 ∧ ws.length ≤ 500 + fl.length * 500 ∧ Rst xss wt st fl ws ∧ Same H H' ∧
        H' WA = some (.lst (ws.map V.int)) ∧ DcOk H' D xss.length (· ∈ fl))
      ⟨_, [], _, none, rfl, rfl, Nat.le_trans (List.length_filter_le _ _) (by omega), start, s02, hW, ⟨[], [], hD2, rfl, List.nodup_nil, fun b m => (by cases m), fun b => Iff.rfl⟩⟩ ?_ ?_
    · rintro m σ H3 ⟨fl, ws, y4, rfl, rfl, wl, R, s3, hW3, DC3⟩
      have fln := few_below _ _ R.nd R.lt
      have few := WI.few
      refine ⟨_, rfl, _, _, rfl, .inl (SqL.of hW3), _, _, rfl, rfl, _, rfl, ite2 (fun z => ?_) (fun z => ?_)⟩
      · rcases snoc_cases ws with rfl | ⟨ws, t, rfl⟩
        · exact absurd (of_decide_eq_true z) (by simp)
        obtain ⟨u, rfl, un, ru⟩ := R.wait t (by simp)
        have hW3' : H3 WA = some (.lst (ws.map V.int ++ [V.int (u : Int)])) := by rw [hW3, List.map_append]; rfl
        refine ⟨_, rfl, .inl ⟨rfl, _, SqL.of hW3'⟩, _, _, _, rfl, rfl, hW3', last_at _ _, ?_⟩
        rw [drop_last]
        have s4 : Same H (L2.upd H3 WA (.lst (ws.map V.int))) := same_upd s3 nW0
        have DC4 : DcOk (L2.upd H3 WA (.lst (ws.map V.int))) D xss.length (· ∈ fl) := DC3.keep fun o h => by rw [upd_ne hDW]; exact h
        have hW4 : L2.upd H3 WA (.lst (ws.map V.int)) WA = some (.lst (ws.map V.int)) := upd_same
        generalize L2.upd H3 WA (.lst (ws.map V.int)) = H4 at s4 DC4 hW4 ⊢
        obtain ⟨kvs, hD4, kv⟩ := DC4.test u
        obtain ⟨kvs', hD4', kvl, DC5⟩ := DC4.put un (.bl true)
        rw [hD4] at hD4'
        cases hD4'
        have wl' : (ws ++ [(u : Int)]).length = ws.length + 1 := by rw [List.length_append]; rfl
        refine ⟨_, rfl, _, rfl, D, _, rfl, DGet.k (k := kN u) hD4, _, rfl, ?_⟩
        by_cases mu : u ∈ fl
        · rw [kv.mpr mu]
          refine iteF ⟨_, ?_, fl, ws, _, rfl, rfl, by omega, R.old mu, s4, hW4, DC4⟩
          omega
        · have sm : (valV kvs (kN u)).isSome = false := by
            cases e : (valV kvs (kN u)).isSome with
            | false => rfl
            | true => exact absurd (kv.mp e) mu
          rw [sm]
          refine iteT ?_
          have R' := R.add WI mu
          have cn := few_below _ _ R'.nd R'.lt
          rw [List.length_cons] at cn
          have s5 : Same H (L2.upd H4 D (.dK (putK kvs (kN u) (.bl true)))) := same_upd s4 nD
          have hW5 : (L2.upd H4 D (.dK (putK kvs (kN u) (.bl true)))) WA = some (.lst (ws.map V.int)) := by rw [upd_ne hDW.symm]; exact hW4
          have hD5 : (L2.upd H4 D (.dK (putK kvs (kN u) (.bl true)))) D = some (.dK (putK kvs (kN u) (.bl true))) := upd_same
          refine ⟨_, rfl, _, rfl, D, _, rfl, DPut.k (k := kN u) hD4 (small1000 (by omega)), ?_⟩
          generalize L2.upd H4 D (.dK (putK kvs (kN u) (.bl true))) = H5 at s5 hW5 hD5 DC5 ⊢
          obtain ⟨wa, wus, wb, ew, w1, w2, w3⟩ := rows_item (dr.same s5) un
          subst ew
          have rowU := WI.row u
          have hXl := rowU.1
          generalize hX : xss.getD u [] = xs at w3 rowU hXl R'
          refine ⟨_, rfl, .inl ⟨rfl, _, SqL.of hW5⟩, _, rfl, _, rfl, _, _, _, _, rfl, rfl, w1, w2, _, rfl, ⟨_, w3⟩, fun WB nB => ?_⟩
          have nWB : WA ≠ WB := fun e => by rw [e, nB] at hW5; cases hW5
          have nDB : D ≠ WB := fun e => by rw [e, nB] at hD5; cases hD5
          have nB0 := none_of s5 nB
          refine lc_list (K := K) (a := wb) (xs := xs.map V.int) (fun i H' => Same H5 H' ∧ H' WB = some (.lst (((xs.take i).filter fun t => decide (t ≠ wt)).map V.int)))
            ⟨same_new5 nB, upd_same⟩ (fun i H' _ h => h.1.seq w3) ?_ ?_
          · rintro i x H6 hx ⟨s6, hB⟩
            rw [List.getElem?_map] at hx
            cases ht : xs[i]? with
            | none => rw [ht] at hx; cases hx
            | some t =>
            rw [ht] at hx
            cases hx
            have tk : xs.take (i + 1) = xs.take i ++ [t] := by rw [List.take_succ, ht]; rfl
            have il := (List.getElem?_eq_some_iff.mp ht).1
            have fl : ((xs.take i).filter fun t => decide (t ≠ wt)).length ≤ 500 := Nat.le_trans (List.length_filter_le _ _) (by rw [List.length_take]; omega)
            refine ⟨rfl, _, rfl, _, rfl, rfl, _, rfl, ?_⟩
            by_cases z : t = wt
            · rw [z, decide_eq_true rfl]
              refine iteF ⟨s6, ?_⟩
              rw [tk, List.filter_append, List.filter_cons_of_neg (by simp [z]), List.filter_nil, List.append_nil]
              exact hB
            · rw [decide_eq_false (fun e => z (by injection e))]
              refine iteT ⟨_, rfl, _, hB, small1000 (by rw [List.length_map]; omega), same_upd s6 nB, ?_⟩
              rw [upd_same, tk, List.filter_append, List.filter_cons_of_pos (by simp [z]), List.filter_nil, List.map_append]
              rfl
          rintro H6 ⟨s6, hB⟩
          rw [List.length_map, List.take_length] at hB
          have hfl : (xs.filter fun t => decide (t ≠ wt)).length ≤ 500 := Nat.le_trans (List.length_filter_le _ _) hXl
          have wl2 : ws.length + (xs.filter fun t => decide (t ≠ wt)).length ≤ 500 + (u :: fl).length * 500 := by rw [List.length_cons]; omega
          refine ⟨_, _, _, _, rfl, rfl, s6 _ _ hW5, hB, ?_, ?_⟩
          · rw [List.length_map, List.length_map]
            exact Nat.le_trans wl2 (Nat.le_trans (show _ ≤ 250500 by rw [List.length_cons]; omega) (Nat.le_of_ble_eq_true rfl))
          · refine ⟨_, ?_, u :: fl, ws ++ xs.filter (fun t => decide (t ≠ wt)), _, rfl, rfl, ?_, R', ?_, ?_, ?_⟩
            · rw [List.length_append, List.length_cons]; omega
            · rw [List.length_append]; exact wl2
            · exact same_upd (s5.trans s6) nW0
            · rw [upd_same, List.map_append]
            · exact (DC5.iff fun x => ⟨fun o => o.elim (fun e => by rw [e]; exact .head _) (.tail _), fun m => List.mem_cons.mp m⟩).keep fun o h => by rw [upd_ne hDW]; exact s6 _ _ h
      · have h0 : ws = [] := by
          cases ws with
          | nil => rfl
          | cons a r => exact absurd (decide_eq_true (by rw [List.length_map, List.length_cons]; omega)) z
        subst h0
        exact ⟨_, rfl, k D H3 s3 nD (DC3.iff R.fin)⟩
    · rintro σ H Q Q' q ⟨v, e1, p, ys, e2, h1, i, j, e3, e4, k, e5, h⟩
      exact ⟨v, e1, p, ys, e2, h1, i, j, e3, e4, k, e5, q _ _ h⟩
/-! ### _law_ends_without -/
def sp_ends_without (K : PySem.W.Frag) : Sp := fun vs H Q _ => ∃ (rv : V) (X : Addr) (b : Nat) (w : Int) (xss : List (List Int)), vs = [rv, .ref X, .int (b : Int), .int w] ∧ Dp K H rv (rowsD xss) ∧ SqL K H X (natV (exOf xss)) ∧ WaysIn xss ∧ b < xss.length ∧
  ∀ H' (r : Bool), Same H H' → (r = true ↔ EW xss b w) → Q (.bl r) H'
theorem ok_law_ends_without (T : Tx w K mg) : FnOk P w K mg base CX0 2 T.a_law_ends_without T.d_law_ends_without ["rows", "exits", "b", "a"] (sp_ends_without K) := by
  refine T.F_law_ends_without.ok sc_law_ends_without (fun vs H Q E h => ?_) (fun cdv A outer s H vs Q E hr h => ?_)
  · obtain ⟨rv, X, b, w, xss, rfl, _⟩ := h
    rfl
  · obtain ⟨rv, X, b, wt, xss, rfl, dr, hX, WI, hb, k⟩ := h
    refine ⟨_, (pss_cons (ps_if (pt_cmpR op_eq (pv 3) (pv 2) (nomark _)) (pss_one (ps_ret pe_bl)) pss_nil)
      (pss_one (ps_ret (pe_cmpR op_gt (pe_callB call_len_seq (by rfl) T.z_len (by decide +kernel) (pa_cons (pe_lc (own := [("node", 4)]) (g := gName 4)  rfl sc_law_ends_without.nd (pi_keysL (pe_call (ok_law_reached T) (hr.mono (by decide)) (by rfl) T.g_law_reached T.F_law_reached.kp T.b_law_reached .nil pass0 (pa_cons (pv 0) (pa_cons (pe_lst (pa_cons (pv 2) pa_nil)) (pa_cons (pv 3) pa_nil))))) (blkOk_by (N := ["rows", "exits", "b", "a", "node"]) (sc := defScope s_law_ends_without) (by decide +kernel)) (fun _ _ _ _ _ => (pg_name (i := 4) sc_law_ends_without.nd rfl (.inl rfl))) (fun _ _ _ _ _ => (pts_one (pt_cmpR (show OpR _ _ (rIn K false) from op_in_seq) (pv 4) (pv 1) (by rfl)))) (fun _ _ _ _ _ => (pv 4))) pa_nil)) pe_int (nomark _))))), ?_⟩
    refine ⟨_, rfl, _, rfl, rfl, _, rfl, ?_⟩
    by_cases z : wt = (b : Int)
    · rw [z, decide_eq_true rfl]
      exact iteT (k H false (Same.refl H) ⟨fun e => (by cases e), fun ⟨e, _, _, h⟩ => absurd z.symm (rch_first h)⟩)
    have nz : ¬ (V.int wt = V.int (b : Int)) := fun e => z (by injection e)
    rw [decide_eq_false nz]
    refine iteF ?_
    refine ⟨_, rfl, _, rfl, by walk_at "size", fun S nS => ?_⟩
    have s1 := same_new5 (o := .lst [.int (b : Int)]) nS
    have hS1 : L2.upd H S (.lst [.int (b : Int)]) S = some (.lst [.int (b : Int)]) := upd_same
    generalize L2.upd H S (.lst [.int (b : Int)]) = H1 at s1 hS1 ⊢
    refine ⟨_, rfl, _, S, wt, xss, [(b : Int)], rfl, dr.same s1, SqL.of hS1, WI, fun t m => ?_, (by simp), fun D H2 s2 nD DC => ?_⟩
    · rw [List.mem_singleton.mp m]; omega
    obtain ⟨kvs, ks, h1, h2, h3, h4, h5⟩ := DC
    have nD0 := none_of s1 nD
    refine ⟨D, kvs, rfl, h1, fun od LA nLA => ?_⟩
    have sD : ∀ {H'' : Hp}, Same (L2.upd H2 D (.frz od (.dK kvs))) H'' → Same H H'' := fun s b o e => by
      refine s b o ?_
      rw [upd_ne (fun z => by rw [z, nD0] at e; cases e)]
      exact (s1.trans s2) b o e
    have hD3 : L2.upd H2 D (.frz od (.dK kvs)) D = some (.frz od (.dK kvs)) := upd_same
    generalize L2.upd H2 D (.frz od (.dK kvs)) = H3 at sD hD3 nLA ⊢
    have lenK : kvs.length = ks.length := by rw [← List.length_map (f := (·.1)) (as := kvs), h2, List.length_map]
    have kl := few_below _ _ h3 h4
    have few := WI.few
    refine lc_it walk_keys (fun i H' => ∃ us : List V, Same H3 H' ∧ H' LA = some (.lst us) ∧ us.length ≤ i ∧ (us = [] ↔ ∀ c ∈ ks.take i, c ∉ exOf xss))
      ⟨[], same_new5 nLA, upd_same, Nat.le_refl _, fun _ c m => (by cases m), fun _ => rfl⟩ (fun i H' _ ⟨_, s4, _⟩ => s4 _ _ hD3) ?_ ?_
    · rintro i x H4 H5 hi ⟨us, s4, hL, ul, um⟩ ⟨rfl, ky, vy, hk, rfl⟩
      have hik : i < ks.length := by omega
      have ek : ky = kN ks[i] := by
        have := congrArg (fun l => l[i]?) h2
        simp only [List.getElem?_map, hk, List.getElem?_eq_getElem hik, Option.map_some] at this
        exact Option.some.inj this
      subst ek
      have tk : ks.take (i + 1) = ks.take i ++ [ks[i]] := by rw [List.take_succ, List.getElem?_eq_getElem hik]; rfl
      have e1 : natV (exOf xss) = ((exOf xss).map Int.ofNat).map V.int := by unfold natV; rw [List.map_map]; rfl
      have fx : ((natV (exOf xss)).all flatV) = true := by rw [e1]; exact flat_ints _
      have inx : inV (kV (kN ks[i])) (natV (exOf xss)) = decide (ks[i] ∈ exOf xss) := by
        rw [e1]
        show inV (V.int ((ks[i] : Nat) : Int)) _ = _
        rw [inV_ints, decide_eq_decide, List.mem_map]
        exact ⟨fun ⟨z, hz, e⟩ => by
          have : z = ks[i] := by have e' : (z : Int) = ((ks[i] : Nat) : Int) := e; omega
          rw [← this]; exact hz, fun m => ⟨_, m, rfl⟩⟩
      refine ⟨rfl, _, rfl, _, rfl, _, _, rfl, .inl ((sD s4).seq hX), rfl, fx, _, rfl, ?_⟩
      rw [if_neg Bool.false_ne_true, inx]
      by_cases z : ks[i] ∈ exOf xss
      · rw [decide_eq_true z]
        refine iteT ⟨_, rfl, _, hL, small1000 (by omega), us ++ [_], same_upd s4 nLA, upd_same, by rw [List.length_append, List.length_singleton]; omega, ?_⟩
        rw [tk]
        exact ⟨fun h => absurd h (by simp), fun h => absurd z (h _ (List.mem_append_right _ (List.mem_singleton.mpr rfl)))⟩
      · rw [decide_eq_false z]
        refine iteF ⟨us, s4, hL, by omega, um.trans ?_⟩
        rw [tk]
        exact ⟨fun h y my => (List.mem_append.mp my).elim (h y) fun my => by rw [List.mem_singleton.mp my]; exact z, fun h y my => h y (List.mem_append_left _ my)⟩
    · rintro H4 ⟨us, s4, hL, ul, um⟩
      rw [lenK, List.take_length] at um
      rw [lenK] at ul
      have ew : ¬ us = [] ↔ EW xss b wt := by
        rw [um]
        constructor
        · intro h
          obtain ⟨c, hc⟩ := Classical.not_forall.mp h
          obtain ⟨mc, hc⟩ := Classical.not_imp.mp hc
          have := mem_exOf.mp (Classical.not_not.mp hc)
          exact ⟨c, this.1, this.2, (h5 c).mp mc⟩
        · rintro ⟨e, e1, e2, e3⟩ h
          exact h e ((h5 e).mpr e3) (mem_exOf.mpr ⟨e1, e2⟩)
      refine ⟨_, _, rfl, .inl (SqL.of hL), _, _, rfl, rfl, ?_⟩
      refine k H4 _ (sD s4) ?_
      rw [decide_eq_true_iff, ← ew]
      exact ⟨fun h z => by rw [z] at h; exact absurd h (by decide), fun h => by
        have : us.length ≠ 0 := fun q => h (List.length_eq_zero_iff.mp q)
        omega⟩
/-! ### the law of postdominators -/
theorem sorted_ext : ∀ {xs ys : List Int}, xs.Pairwise (· < ·) → ys.Pairwise (· < ·) → (∀ x, x ∈ xs ↔ x ∈ ys) → xs = ys
  | [], [], _, _, _ => rfl
  | [], y :: ys, _, _, h => absurd ((h y).mpr (.head _)) (fun m => by cases m)
  | x :: xs, [], _, _, h => absurd ((h x).mp (.head _)) (fun m => by cases m)
  | x :: xs, y :: ys, p, q, h => by
    have p' := List.pairwise_cons.mp p
    have q' := List.pairwise_cons.mp q
    have e : x = y := by
      rcases List.mem_cons.mp ((h x).mp (.head _)) with e | m
      · exact e
      · rcases List.mem_cons.mp ((h y).mpr (.head _)) with e | m2
        · exact e.symm
        · have a := q'.1 x m; have b := p'.1 y m2; omega
    subst e
    rw [sorted_ext p'.2 q'.2 fun z => ⟨fun m => ?_, fun m => ?_⟩]
    · rcases List.mem_cons.mp ((h z).mp (.tail _ m)) with e | m2
      · have a := p'.1 z m; omega
      · exact m2
    · rcases List.mem_cons.mp ((h z).mpr (.tail _ m)) with e | m2
      · have a := q'.1 z m; omega
      · exact m2
theorem end_exit {e : PyData} (h : IsEnd e) : SeqAt.shaped e = true ∧ PyData.eqv e (.tuple [.str "exit"]) = decide (tgts e = []) := by
  obtain ⟨c, m, h⟩ := h
  cases h with
  | exit => exact ⟨by kernel_rfl, by kernel_rfl⟩
  | @jump k k1 k2 => exact ⟨by kernel_rfl, by rw [tgts_jump]; kernel_rfl⟩
  | @branch r k m r0 k1 k2 m1 m2 =>
    refine ⟨by kernel_rfl, ?_⟩
    rw [tgts_branch]
    by_cases z : k = m
    · rw [if_pos z]; kernel_rfl
    · rw [if_neg z]; kernel_rfl
theorem DueP.small {xss : List (List Int)} {b : Nat} {x : Int} (h : DueP xss b x) (n : xss.length ≤ 400) : Small x := by
  unfold Small
  rcases h with ⟨_, rfl⟩ | ⟨_, ⟨rfl, _⟩ | ⟨a, rfl, g⟩⟩
  · decide
  · decide
  · have := g.1; omega
theorem Ext.one {q p : Addr} {H : Hp} (S : Strm q H p) : Ext q p (fun b => b = p) H := ⟨S, rfl, fun b e z => by
    obtain ⟨_, _, _, _, e1, _⟩ := S
    have e' : b = p := e
    rw [e', e1] at z; cases z⟩
theorem ints_eqv (ws : List Int) : PyData.eqv (.list (ws.map PyData.int)) (.list (ws.map PyData.int)) = true := SeqAt.eqv_refl _ (SeqAt.canLay_of_shaped (PySem.W.ke_shaped_ints ws))
theorem sorted_small {ys : List Int} {n : Nat} (p : ys.Pairwise (· < ·)) (h : ∀ t ∈ ys, ∃ v : Nat, t = (v : Int) ∧ v < n) (hn : n ≤ 100) : ys.length ≤ 100 ∧ ∀ x ∈ ys, Small x := by
  have b : ∀ x ∈ ys, 0 ≤ x ∧ x < n := fun x m => by obtain ⟨v, rfl, hv⟩ := h x m; omega
  have nd : (ys.map Int.toNat).Nodup := List.pairwise_map.mpr ((List.Pairwise.and_mem.mp p).imp fun {x y} ⟨mx, my, l⟩ e => by have a := b x mx; have c := b y my; omega)
  have q := few_below n _ nd fun v m => by
    obtain ⟨x, mx, rfl⟩ := List.mem_map.mp m
    have a := b x mx
    exact (show x.toNat < n by omega)
  rw [List.length_map] at q
  exact ⟨by omega, fun x m => by have := b x m; unfold Small; omega⟩
theorem ok_law (T : Tx w K mg) : LawRun P w K mg T.a_law T.d_law "script" 63 := by
  intro base s H a ns Q E inB hns en bi hlen hS qq
  refine T.F_law.runAt sc_law (k := 80) (us := [Value.ref a]) (vs := [V.ref a]) ⟨rfl, by decide, by decide⟩ en bi (.cons rfl .nil) rfl (fun cdv hr => ?_)
  refine ⟨_, (pss_cons (ps_set (i := 1) sc_law.nd rfl (.inl rfl) (pe_call (ok_law_stream T) (hr.mono (by decide)) (by rfl) T.g_law_stream T.F_law_stream.kp T.b_law_stream .nil pass0 (pa_cons (pv 0) pa_nil)))
      (pss_cons (ps_set (i := 2) sc_law.nd rfl (.inr rfl) (pe_call (ok_law_flow T) (hr.mono (by decide)) (by rfl) T.g_law_flow T.F_law_flow.kp T.b_law_flow .nil pass0 (pa_cons (pv 1) (pa_cons (pe_ix ix_list (pe_lst (pa_cons pe_int (pa_cons pe_int pa_nil))) (pe_call (ok_law_draw T) (hr.mono (by decide)) (by rfl) T.g_law_draw T.F_law_draw.kp T.b_law_draw .nil pass0 (pa_cons (pv 1) (pa_cons pe_int pa_nil))) (fun _ _ => rfl)) (pa_cons pe_int pa_nil)))))
      (pss_cons (ps_set (i := 3) sc_law.nd rfl (.inr rfl) (pe_call (ok_law_leads T) (hr.mono (by decide)) (by rfl) T.g_law_leads T.F_law_leads.kp T.b_law_leads .nil pass0 (pa_cons (pe_ix ix_tup (pv 2) pe_int (fun _ _ => rfl)) pa_nil)))
      (pss_cons (ps_set (i := 4) sc_law.nd rfl (.inl rfl) (pe_callB call_len_seq (by rfl) T.z_len (by decide +kernel) (pa_cons (pv 3) pa_nil)))
      (pss_cons (ps_set (i := 5) sc_law.nd rfl (.inr rfl) (pe_lc (own := [("k", 13)]) (g := gName 13)  rfl sc_law.nd (pi_range1 (by rfl) T.z_range (pa_cons (pv 4) pa_nil)) (blkOk_by (N := ["script", "stream", "graph", "rows", "many", "exits", "due", "b", "found", "a", "own", "actual", "other", "k", "c"]) (sc := defScope s_law) (by decide +kernel)) (fun _ _ _ _ _ => (pg_name (i := 13) sc_law.nd rfl (.inl rfl))) (fun _ _ _ _ _ => (pts_one (pt_cmpR (show OpR _ _ (rEqD K) from op_eqD hr.units) (pe_ix (show IxR _ (rIxT K) from ix_tup) (pe_ix (show IxR _ (rIxT K) from ix_tup) (pe_ix (show IxR _ (rIxT K) from ix_tup) (pv 2) pe_int (fun _ _ => rfl)) (pv 13) (fun _ _ => rfl)) pe_int (fun _ _ => rfl)) (pe_tup (pa_cons pe_str pa_nil)) (nomark _)))) (fun _ _ _ _ _ => (pv 13))))
      (pss_cons (ps_set (i := 6) sc_law.nd rfl (.inl rfl) (pe_lst pa_nil))
      (pss_cons (ps_for PassesOwn.never rfl (pi_range1 (by rfl) T.z_range (pa_cons (pv 4) pa_nil)) (pg_name (i := 7) sc_law.nd rfl (.inr rfl)) (pss_cons (ps_set (i := 8) sc_law.nd rfl (.inl rfl) (pe_un un_neg pe_int))
      (C8.pss_cut (ps_if (pt_val (pe_call (ok_law_ends_without T) (hr.mono (by decide)) (by rfl) T.g_law_ends_without T.F_law_ends_without.kp T.b_law_ends_without .nil pass0 (pa_cons (pv 3) (pa_cons (pv 5) (pa_cons (pv 7) (pa_cons (pe_un un_neg pe_int) pa_nil)))))) (pss_cons (ps_setLc (i := 10) (own := [("a", 9)]) (g := gName 9)  rfl sc_law.nd rfl rfl (sw_true rfl rfl rfl (by decide +kernel)) (pi_range1 (by rfl) T.z_range (pa_cons (pv 4) pa_nil)) (blkOk_by (N := ["script", "stream", "graph", "rows", "many", "exits", "due", "b", "found", "a", "own", "actual", "other", "k", "c"]) (sc := defScope s_law) (by decide +kernel)) (fun _ _ _ _ _ => (pg_name (i := 9) sc_law.nd rfl (.inl rfl))) (fun _ _ _ _ _ => (pts_one (PW.pt (pw_and (pt_cmpR op_ne (pv 9) (pv 7) (nomark _)) (pw_and1 (pt_not (pt_val (pe_call (ok_law_ends_without T) (hr.mono (by decide)) (by rfl) T.g_law_ends_without T.F_law_ends_without.kp T.b_law_ends_without .nil pass0 (pa_cons (pv 3) (pa_cons (pv 5) (pa_cons (pv 7) (pa_cons (pv 9) pa_nil)))))))))))) (fun _ _ _ _ _ => (pv 9)))
      (pss_one (ps_for PassesOwn.never rfl (pi_list (pv 10)) (pg_name (i := 9) sc_law.nd rfl (.inr rfl)) (pss_one (ps_if (pt_cmpR op_eq (pe_callB call_len_seq (by rfl) T.z_len (by decide +kernel) (pa_cons (pe_lc (own := [("c", 14)]) (g := gName 14)  rfl sc_law.nd (pi_list (pv 10)) (blkOk_by (N := ["script", "stream", "graph", "rows", "many", "exits", "due", "b", "found", "a", "own", "actual", "other", "k", "c"]) (sc := defScope s_law) (by decide +kernel)) (fun _ _ _ _ _ => (pg_name (i := 14) sc_law.nd rfl (.inl rfl))) (fun _ _ _ _ _ => (pts_one (PW.pt (pw_and (pt_val (pe_call (ok_law_ends_without T) (hr.mono (by decide)) (by rfl) T.g_law_ends_without T.F_law_ends_without.kp T.b_law_ends_without .nil pass0 (pa_cons (pv 3) (pa_cons (pv 5) (pa_cons (pv 9) (pa_cons (pv 14) pa_nil)))))) (pw_and1 (pt_cmpR op_ne (pv 14) (pv 9) (nomark _))))))) (fun _ _ _ _ _ => (pv 14))) pa_nil)) pe_int (nomark _)) (pss_one (ps_set (i := 8) sc_law.nd rfl (.inl rfl) (pv 9))) pss_nil))))) pss_nil)
      (pss_one (ps_expr (pe_bm PySem.F.plainAttrs_list PySem.F.slot_list_append PySem.F.type_list_append mt_append (pv 6) (pa_cons (pv 8) pa_nil)))))))
      (pss_cons (ps_if (pt_cmpR op_ne (pe_callB (call_reprD rfl hr.units) (by rfl) T.z_repr (by decide +kernel) (pa_cons (pe_call (ok_postdominators T) (hr.mono (by decide)) (by rfl) T.g_postdominators T.F_postdominators.kp T.b_postdominators .nil pass0 (pa_cons (pv 2) pa_nil)) pa_nil)) (pe_callB (call_reprD rfl hr.units) (by rfl) T.z_repr (by decide +kernel) (pa_cons (pv 6) pa_nil)) (nomark _)) (pss_one (ps_ret pe_bl)) pss_nil)
      (pss_cons (ps_for PassesOwn.never rfl (pi_range1 (by rfl) T.z_range (pa_cons (pv 4) pa_nil)) (pg_name (i := 7) sc_law.nd rfl (.inr rfl)) (pss_cons (ps_set (i := 11) sc_law.nd rfl (.inl rfl) (pe_call (ok_region T) (hr.mono (by decide)) (by rfl) T.g_region T.F_region.kp T.b_region .nil pass0 (pa_cons (pv 2) (pa_cons (pv 7) pa_nil))))
      (pss_cons (ps_if (pt_cmpR op_ne (pe_callB (call_reprD rfl hr.units) (by rfl) T.z_repr (by decide +kernel) (pa_cons (pv 11) pa_nil)) (pe_callB (call_reprD rfl hr.units) (by rfl) T.z_repr (by decide +kernel) (pa_cons (pe_callB (call_sortedDI rfl) (by rfl) T.z_sorted (by decide +kernel) (pa_cons (pe_call (ok_law_reached T) (hr.mono (by decide)) (by rfl) T.g_law_reached T.F_law_reached.kp T.b_law_reached .nil pass0 (pa_cons (pv 3) (pa_cons (pe_ix ix_list (pv 3) (pv 7) (fun _ _ => rfl)) (pa_cons (pe_ix ix_list (pv 6) (pv 7) (fun _ _ => rfl)) pa_nil)))) pa_nil)) pa_nil)) (nomark _)) (pss_one (ps_ret pe_bl)) pss_nil)
      (pss_cons (ps_set (i := 12) sc_law.nd rfl (.inl rfl) (pe_call (ok_region T) (hr.mono (by decide)) (by rfl) T.g_region T.F_region.kp T.b_region .nil pass0 (pa_cons (pv 2) (pa_cons (pv 7) pa_nil))))
      (pss_cons (ps_expr (pe_bm PySem.F.plainAttrs_list PySem.F.slot_list_append PySem.F.type_list_append mt_append (pv 12) (pa_cons pe_int pa_nil)))
      (pss_one (ps_if (pt_cmpR op_ne (pe_callB (call_reprD rfl hr.units) (by rfl) T.z_repr (by decide +kernel) (pa_cons (pv 11) pa_nil)) (pe_callB (call_reprD rfl hr.units) (by rfl) T.z_repr (by decide +kernel) (pa_cons (pe_call (ok_region T) (hr.mono (by decide)) (by rfl) T.g_region T.F_region.kp T.b_region .nil pass0 (pa_cons (pv 2) (pa_cons (pv 7) pa_nil))) pa_nil)) (nomark _)) (pss_one (ps_ret pe_bl)) pss_nil)))))))
      (pss_one (ps_ret pe_bl))))))))))), ?_⟩
  refine ⟨_, rfl, a, ns, rfl, hS, hlen, fun H1 p q s1 np nq S1 => ?_⟩
  refine ⟨_, rfl, by walk_at "size", fun LA nLA => ?_⟩
  have S2 := S1.same (same_new5 (o := .lst [.int 9, .int 16]) nLA)
  have hLA : L2.upd H1 LA (.lst [.int 9, .int 16]) LA = some (.lst [.int 9, .int 16]) := upd_same
  have nLp : LA ≠ p := S1.nep nLA
  generalize L2.upd H1 LA (.lst [.int 9, .int 16]) = H2 at S2 hLA ⊢
  refine ⟨_, rfl, p, q, 2, rfl, S2, by decide, by decide, fun x H3 x0 x1 b3 S3 => ?_⟩
  have hLA3 := b3 _ _ nLp hLA
  obtain ⟨m, hm, m1, m2⟩ : ∃ m : Int, atI [V.int 9, V.int 16] x = some (.int m) ∧ 1 ≤ m ∧ m ≤ 16 := by
    have : x = 0 ∨ x = 1 := by omega
    rcases this with rfl | rfl
    · exact ⟨9, rfl, by decide, by decide⟩
    · exact ⟨16, rfl, by decide, by decide⟩
  refine ⟨_, _, _, _, rfl, rfl, SqL.of hLA3, hm, ?_⟩
  refine ⟨p, q, _, m, 0, rfl, Ext.one S3, m1, (by omega), .inl rfl, fun gv H4 ps ss many nodes es F b4 S4 dg => ?_⟩
  replace dg := dg.dp
  have N := F.nodes (by omega)
  have FW := F.flowWays (by omega)
  obtain ⟨ga, gxs, gu, rfl, g1, g2, g3⟩ := Dp.item dg (i := 3) rfl
  refine ⟨_, rfl, _, _, _, _, rfl, rfl, g1, g2, gu, nodes, es, rfl, g3, N, fun R1 r1 H5 s5 n5 W1 => ?_⟩
  have dg5 := dg.same s5
  have dr : Dp K H5 (.ref R1) (rowsD (es.map tgts)) := W1.dp
  have rl := W1.len
  have rtop := W1.top
  refine ⟨_, rfl, _, _, rfl, .inl (SqL.of rtop), ?_⟩
  have n16 : nodes.length ≤ 16 := by have := F.most; omega
  have lX : (es.map tgts).length = nodes.length := by rw [List.length_map, N.len]
  have exs : ∀ i, i < nodes.length → (es.map tgts).getD i [] = tgts (es.getD i .none) ∧ nodes[i]? = some (nodes.getD i .none) ∧ (∃ is, nodes.getD i .none = .tuple [.tuple is, es.getD i .none]) ∧ IsEnd (es.getD i .none) := fun i hi => by
    have he : i < es.length := by rw [← N.len]; exact hi
    have e1 : nodes[i]? = some (nodes.getD i .none) := by rw [List.getD_eq_getElem?_getD, List.getElem?_eq_getElem hi]; rfl
    have e2 : es[i]? = some (es.getD i .none) := by rw [List.getD_eq_getElem?_getD, List.getElem?_eq_getElem he]; rfl
    refine ⟨?_, e1, N.node i _ _ e1 e2⟩
    rw [List.getD_eq_getElem?_getD, List.getElem?_map, e2]; rfl
  generalize hX : es.map tgts = xss at W1 dr FW rl lX exs
  have pos := FW.pos
  have small := FW.small
  have hn : ((List.map V.ref r1).length : Int) = (xss.length : Int) := by rw [List.length_map, rl]
  rw [hn]
  -- the exits
  refine ⟨_, rfl, (xss.length : Int), rfl, by omega, by omega, fun EA nE => ?_⟩
  refine lc_range (n := (xss.length : Int).toNat) (fun i H' => Same H5 H' ∧ i ≤ xss.length ∧ H' EA = some (.lst (natV ((List.range i).filter fun a => decide (xss.getD a [] = [])))))
    ⟨same_new5 nE, Nat.zero_le _, upd_same⟩ ?_ ?_
  · rintro i H6 hi ⟨s6, hi2, hE⟩
    have hix : i < xss.length := by omega
    rw [Int.zero_add]
    obtain ⟨x1, x2, ⟨is, x3⟩, x4⟩ := exs i (by omega)
    obtain ⟨ga2, gx2, gu2, e2, j1, j2, j3⟩ := Dp.item (dg5.same s6) (i := 3) rfl
    cases e2
    obtain ⟨na, nx, nu, rfl, h1, h2, h3⟩ := Dp.item j3 x2
    rw [x3] at h3
    obtain ⟨nb, ny, nv, rfl, l1, l2, l3⟩ := Dp.item h3 (i := 1) rfl
    obtain ⟨sh, eq⟩ := end_exit x4
    have ln : ((List.range i).filter fun a => decide (xss.getD a [] = [])).length ≤ i := Nat.le_trans (List.length_filter_le _ _) (by rw [List.length_range]; exact Nat.le_refl _)
    have st : (List.range (i + 1)).filter (fun a => decide (xss.getD a [] = [])) = (List.range i).filter (fun a => decide (xss.getD a [] = [])) ++ (if xss.getD i [] = [] then [i] else []) := by
      rw [List.range_succ, List.filter_append]
      congr 1
      by_cases z : xss.getD i [] = []
      · rw [if_pos z, List.filter_cons_of_pos (p := fun a => decide (xss.getD a [] = [])) (decide_eq_true z)]; rfl
      · rw [if_neg z, List.filter_cons_of_neg (p := fun a => decide (xss.getD a [] = [])) (by rw [decide_eq_false z]; exact Bool.false_ne_true)]; rfl
    refine ⟨rfl, _, rfl, _, _, _, _, rfl, rfl, j1, j2, _, rfl, _, _, _, _, rfl, rfl, h1, h2, _, _, _, _, rfl, rfl, l1, l2, by walk_at "size", fun XT nX => ?_⟩
    have s7 := same_new5 (o := .tup [.str "exit"]) nX
    refine ⟨_, .tuple [.str "exit"], l3.same s7, .tup (SqT.of upd_same) (.cons (.str _) .nil), sh, by kernel_rfl, _, rfl, ?_⟩
    rw [eq, ← x1]
    generalize L2.upd H6 XT (.tup [.str "exit"]) = H7 at s7 ⊢
    have s67 := s6.trans s7
    by_cases z : xss.getD i [] = []
    · rw [decide_eq_true z]
      refine iteT ⟨_, rfl, _, s7 _ _ hE, small1000 (by rw [natV_len]; omega), same_upd s67 nE, by omega, ?_⟩
      rw [upd_same, st, if_pos z, natV_snoc]
    · rw [decide_eq_false z]
      refine iteF ⟨s67, by omega, ?_⟩
      rw [st, if_neg z, List.append_nil]; exact s7 _ _ hE
  rintro H6 ⟨s6, _, hE⟩
  rw [Int.toNat_natCast] at hE
  have hE' : H6 EA = some (.lst (natV (exOf xss))) := hE
  clear hE
  have dr6 := dr.same s6
  have dg6 := dg5.same s6
  refine ⟨by walk_at "size", fun DU nDU => ?_⟩
  have s7 := same_new5 (o := .lst []) nDU
  have hDU : L2.upd H6 DU (.lst []) DU = some (.lst (([] : List Int).map V.int)) := upd_same
  generalize L2.upd H6 DU (.lst []) = H7 at s7 hDU ⊢
  refine ⟨_, rfl, (xss.length : Int), rfl, by omega, by omega, ?_⟩
  refine for_range (n := (xss.length : Int).toNat) (fun i σ H' => ∃ (y7 y8 y9 y10 : Option V) (zs : List Int), σ = [some (.ref a), some (.ref p), some (.ref ga), some (.ref R1), some (.int (xss.length : Int)), some (.ref EA), some (.ref DU), y7, y8, y9, y10, none, none, none, none] ∧
      Same H6 H' ∧ H' DU = some (.lst (zs.map V.int)) ∧ zs.length = i ∧ ∀ b x, zs[b]? = some x → DueP xss b x)
    ⟨none, none, none, none, [], rfl, s7, hDU, rfl, fun b x e => by cases e⟩ ?_ ?_
  · rintro i σ H8 hi ⟨y7, y8, y9, y10, zs, rfl, s8, hDU8, zl, zd⟩
    have hi' : i < xss.length := by omega
    rw [Int.zero_add]
    have hE8 := s8 _ _ hE'
    refine ⟨_, rfl, ?_⟩
    refine ⟨fun σ H' => ∃ (y9 y10 : Option V) (x : Int), σ = [some (.ref a), some (.ref p), some (.ref ga), some (.ref R1), some (.int (xss.length : Int)), some (.ref EA), some (.ref DU), some (.int (i : Int)), some (.int x), y9, y10, none, none, none, none] ∧ Same H8 H' ∧ DueP xss i x, ?_, ?_⟩
    · refine ⟨_, rfl, _, rfl, _, rfl, _, rfl, .ref R1, EA, i, -1, xss, rfl, dr6.same s8, SqL.of hE8, FW.waysIn, hi', fun H9 r s9 hr9 => ⟨_, rfl, ?_⟩⟩
      have hr : r = true ↔ EW xss i (-1) := hr9
      cases r with
      | false => exact iteF ⟨_, _, _, rfl, s9, .inl ⟨fun h => (by cases hr.mpr h), rfl⟩⟩
      | true =>
      have ei : EW xss i (-1) := hr.mp rfl
      refine iteT ?_
      have s69 := s8.trans s9
      have hE9 := s9 _ _ hE8
      refine ⟨_, rfl, (xss.length : Int), rfl, by omega, by omega, fun OW nOW => ?_⟩
      refine lc_range (n := (xss.length : Int).toNat) (fun j H' => ∃ l : List Nat, Same H9 H' ∧ H' OW = some (.lst (natV l)) ∧ l.length ≤ j ∧ ∀ a, a ∈ l ↔ a < j ∧ a ≠ i ∧ ¬ EW xss i (a : Int))
        ⟨[], same_new5 nOW, upd_same, Nat.le_refl _, fun a => ⟨fun m => (by cases m), fun h => absurd h.1 (Nat.not_lt_zero _)⟩⟩ ?_ ?_
      · rintro j HA hj ⟨l, sA, hO, ll, lm⟩
        rw [Int.zero_add]
        refine ⟨rfl, _, rfl, _, rfl, rfl, _, rfl, ?_⟩
        by_cases z : j = i
        · subst z
          rw [decide_eq_true rfl]
          refine iteF (iteF ⟨l, sA, hO, by omega, fun a => (lm a).trans ⟨fun h => ⟨by omega, h.2⟩, fun h => ⟨by have := h.2.1; omega, h.2⟩⟩⟩)
        have nz : ¬ (V.int (j : Int) = V.int (i : Int)) := fun e => z (by injection e with e; omega)
        rw [decide_eq_false nz]
        refine iteT ⟨_, rfl, _, rfl, _, rfl, _, rfl, .ref R1, EA, i, (j : Int), xss, rfl, (dr6.same s69).same sA, SqL.of (sA _ _ hE9), FW.waysIn, hi', fun HB r sB hrB => ⟨_, rfl, ?_⟩⟩
        have hld : r = true ↔ EW xss i (j : Int) := hrB
        cases r with
        | true =>
          have yes : EW xss i (j : Int) := hld.mp rfl
          refine iteF ⟨l, sA.trans sB, sB _ _ hO, by omega, fun a => (lm a).trans ⟨fun h => ⟨by omega, h.2⟩, fun h => ⟨?_, h.2⟩⟩⟩
          have : a ≠ j := fun e => h.2.2 (by rw [e]; exact yes)
          omega
        | false =>
          have no : ¬ EW xss i (j : Int) := fun h => by cases hld.mpr h
          refine iteT ⟨_, rfl, _, sB _ _ hO, small1000 (by rw [natV_len]; omega), l ++ [j], same_upd (sA.trans sB) nOW, by rw [upd_same, natV_snoc], by rw [List.length_append, List.length_singleton]; omega, fun a => ?_⟩
          rw [List.mem_append, List.mem_singleton, lm a]
          constructor
          · rintro (h | rfl)
            · exact ⟨by omega, h.2⟩
            · exact ⟨by omega, z, no⟩
          · intro h
            by_cases e : a = j
            · exact .inr e
            · exact .inl ⟨by omega, h.2⟩
      rintro HA ⟨l, sA, hO, ll, lm⟩
      rw [Int.toNat_natCast] at lm ll
      have s6A := s69.trans sA
      refine ⟨_, rfl, OW, rfl, ⟨_, SqL.of hO⟩, for_list (K := K) (a := OW) (xs := natV l) (fun k σ H' => ∃ (y9 : Option V) (x : Int), σ = [some (.ref a), some (.ref p), some (.ref ga), some (.ref R1), some (.int (xss.length : Int)), some (.ref EA), some (.ref DU), some (.int (i : Int)), some (.int x), y9, some (.ref OW), none, none, none, none] ∧
          Same HA H' ∧ ((x = -1 ∧ ∀ a ∈ l.take k, ¬ GoodP xss a i) ∨ ∃ a : Nat, x = (a : Int) ∧ GoodP xss a i))
        ⟨y9, -1, rfl, Same.refl _, .inl ⟨rfl, fun a m => (by cases m)⟩⟩ (fun k σ H' _ ⟨_, _, _, sB, _⟩ => SqL.of (sB _ _ hO)) ?_ ?_⟩
      · rintro k u σ HB hx ⟨y9, x, rfl, sB, ix⟩
        unfold natV at hx
        rw [List.getElem?_map] at hx
        cases hk : l[k]? with
        | none => rw [hk] at hx; cases hx
        | some e =>
        rw [hk] at hx
        cases hx
        have el := (lm e).mp (List.mem_of_getElem? hk)
        have hOB := sB _ _ hO
        refine ⟨_, rfl, OW, rfl, ⟨_, SqL.of hOB⟩, fun CW nCW => ?_⟩
        refine lc_list (K := K) (a := OW) (xs := natV l) (fun j H' => ∃ us : List V, Same HB H' ∧ H' CW = some (.lst us) ∧ us.length ≤ j ∧ (us = [] ↔ ∀ c ∈ l.take j, ¬ EW xss e (c : Int)))
          ⟨[], same_new5 nCW, upd_same, Nat.le_refl _, fun _ c m => (by cases m), fun _ => rfl⟩ (fun j H' _ ⟨_, sC, _⟩ => SqL.of (sC _ _ hOB)) ?_ ?_
        · rintro j u2 HC hx ⟨us, sC, hC, ul, um⟩
          unfold natV at hx
          rw [List.getElem?_map] at hx
          cases hj : l[j]? with
          | none => rw [hj] at hx; cases hx
          | some c =>
          rw [hj] at hx
          cases hx
          have cl := (lm c).mp (List.mem_of_getElem? hj)
          have jl := (List.getElem?_eq_some_iff.mp hj).1
          have tk : l.take (j + 1) = l.take j ++ [c] := by rw [List.take_succ, hj]; rfl
          refine ⟨rfl, _, rfl, _, rfl, _, rfl, _, rfl, .ref R1, EA, e, (c : Int), xss, rfl, ((dr6.same s6A).same sB).same sC, SqL.of (sC _ _ (sB _ _ (sA _ _ hE9))), FW.waysIn, el.1, fun HD r sD hrD => ⟨_, rfl, ?_⟩⟩
          have hld : r = true ↔ EW xss e (c : Int) := hrD
          cases r with
          | false =>
            have no : ¬ EW xss e (c : Int) := fun h => by cases hld.mpr h
            refine iteF (iteF ⟨us, sC.trans sD, sD _ _ hC, by omega, um.trans ?_⟩)
            rw [tk]
            exact ⟨fun h y m => (List.mem_append.mp m).elim (h y) fun m => by rw [List.mem_singleton.mp m]; exact no, fun h y m => h y (List.mem_append_left _ m)⟩
          | true =>
            have yes : EW xss e (c : Int) := hld.mp rfl
            have ce : ¬ (V.int (c : Int) = V.int (e : Int)) := fun q => by
              obtain ⟨_, _, _, h⟩ := yes
              refine rch_first h ?_
              injection q with q
              exact q.symm
            refine iteT ⟨_, rfl, _, rfl, rfl, _, rfl, ?_⟩
            rw [decide_eq_false ce]
            refine iteT ⟨_, rfl, _, sD _ _ hC, small1000 (by omega), us ++ [.int (c : Int)], same_upd (sC.trans sD) nCW, upd_same, by rw [List.length_append, List.length_singleton]; omega, ?_⟩
            rw [tk]
            exact ⟨fun h => absurd h (by simp), fun h => absurd yes (h c (List.mem_append_right _ (List.mem_singleton.mpr rfl)))⟩
        rintro HC ⟨us, sC, hC, ul, um⟩
        rw [natV_len, List.take_length] at um
        rw [natV_len] at ul
        refine ⟨_, _, rfl, .inl (SqL.of hC), rfl, _, rfl, ?_⟩
        have tk : l.take (k + 1) = l.take k ++ [e] := by rw [List.take_succ, hk]; rfl
        have gd : us = [] ↔ GoodP xss e i := um.trans ⟨fun h => ⟨el.1, el.2.1, el.2.2, fun c cn cb cd => h c ((lm c).mpr ⟨cn, cb, cd⟩)⟩, fun g c m => by have := (lm c).mp m; exact g.2.2.2 c this.1 this.2.1 this.2.2⟩
        by_cases z : us = []
        · have e0 : V.int ((us.length : Nat) : Int) = V.int 0 := by rw [z]; rfl
          rw [decide_eq_true e0]
          exact iteT ⟨_, rfl, _, _, rfl, sB.trans sC, .inr ⟨e, rfl, gd.mp z⟩⟩
        · have e0 : ¬ V.int ((us.length : Nat) : Int) = V.int 0 := fun q => z (List.length_eq_zero_iff.mp (by injection q with q; omega))
          rw [decide_eq_false e0]
          refine iteF ⟨_, _, rfl, sB.trans sC, ix.imp (fun h => ⟨h.1, fun y m => ?_⟩) id⟩
          rw [tk] at m
          rcases List.mem_append.mp m with m | m
          · exact h.2 y m
          · rw [List.mem_singleton.mp m]; exact fun g => z (gd.mpr g)
      · rintro σ HB ⟨y9, x, rfl, sB, ix⟩
        rw [natV_len, List.take_length] at ix
        exact ⟨_, _, x, rfl, (s9.trans sA).trans sB, .inr ⟨ei, ix.imp (fun h => ⟨h.1, fun y g => h.2 y ((lm y).mpr ⟨g.1, g.2.1, g.2.2.1⟩) g⟩) id⟩⟩
    · rintro σ H9 ⟨y9, y10, x, rfl, s9, dx⟩
      have hDU9 := s9 _ _ hDU8
      refine ⟨_, rfl, .inl ⟨rfl, _, SqL.of hDU9⟩, _, rfl, _, _, _, rfl, rfl, hDU9, small1000 (by rw [List.length_map]; omega), ?_⟩
      refine ⟨_, _, _, _, zs ++ [x], rfl, same_upd (s8.trans s9) nDU, by rw [upd_same, List.map_append]; rfl, by rw [List.length_append, List.length_singleton, zl], fun b y e => ?_⟩
      rcases Nat.lt_trichotomy b zs.length with h | h | h
      · rw [List.getElem?_append_left h] at e; exact zd b y e
      · rw [h, List.getElem?_append_right (Nat.le_refl _), Nat.sub_self] at e
        cases e
        rw [h, zl]; exact dx
      · rw [List.getElem?_eq_none (by rw [List.length_append, List.length_singleton]; omega)] at e; cases e
  · rintro σ H8 ⟨y7, y8, y9, y10, zs, rfl, s8, hDU8, zl, zd⟩
    rw [Int.toNat_natCast] at zl
    have lz : zs.length ≤ 1000 := by omega
    obtain ⟨shZ, _, _⟩ := shows_ints (xs := zs) (fun x m => by
      obtain ⟨b, hb, e⟩ := List.getElem_of_mem m
      exact (zd b x (by rw [List.getElem?_eq_getElem hb, e])).small small) lz
    have dDU : ∀ {H'}, Same H8 H' → Dp K H' (.ref DU) (.list (zs.map PyData.int)) := fun s => .lst (SqL.of (s _ _ hDU8)) (DpAll.ints zs)
    have FW' : FlowWays (es.map tgts) := by rw [hX]; exact FW
    refine ⟨_, rfl, .ref ga, _, _, _, nodes, es, rfl, dg6.same s8, N, FW', fun AF H9 f s9 nA PO hA => ?_⟩
    rw [hX] at PO hA
    rw [PO.all FW.waysIn zl zd] at hA
    refine ⟨AF, _, rfl, .lst (SqL.of hA) (DpAll.ints zs), shZ.able, shZ.dict, shZ.deep, shZ.size, _, rfl, DU, _, rfl, dDU s9, shZ.able, shZ.dict, shZ.deep, shZ.size, rfl, _, rfl, ?_⟩
    rw [decide_eq_true rfl]
    refine iteF ?_
    clear hA PO nA
    have s69 := s8.trans s9
    have hDU9 := s9 _ _ hDU8
    refine ⟨_, rfl, (xss.length : Int), rfl, by omega, by omega, ?_⟩
    refine for_range (n := (xss.length : Int).toNat) (fun i σ H' => ∃ (y7 y11 y12 : Option V), σ = [some (.ref a), some (.ref p), some (.ref ga), some (.ref R1), some (.int (xss.length : Int)), some (.ref EA), some (.ref DU), y7, y8, y9, y10, y11, y12, none, none] ∧ Same H9 H')
      ⟨_, _, _, rfl, Same.refl _⟩ ?_ ?_
    · rintro i σ HA hi ⟨y7, y11, y12, rfl, sA⟩
      have hi' : i < xss.length := by omega
      have hiX : i < (es.map tgts).length := by rw [hX]; exact hi'
      have l60 : (es.map tgts).length < 60 := by rw [hX]; omega
      have hz : zs[i]? = some zs[i] := List.getElem?_eq_getElem (by omega)
      have dz := zd i _ hz
      rw [Int.zero_add]
      have s6A := s69.trans sA
      refine ⟨_, rfl, _, rfl, .ref ga, i, _, _, _, nodes, es, rfl, dg6.same s6A, N, FW', hiX, l60, fun RA HB f1 ys sB nRA P1 hRA pw1 mm1 => ?_⟩
      rw [hX] at P1 mm1
      rw [P1.due FW.waysIn hi' dz] at mm1
      obtain ⟨yl, ysm⟩ := sorted_small (n := xss.length) pw1 (fun t m => by obtain ⟨v, e, h, _⟩ := (mm1 t).mp m; exact ⟨v, e, h⟩) (by omega)
      obtain ⟨shY, _, _⟩ := shows_ints (xs := ys) ysm (by omega)
      have dRA : ∀ {H'}, Same HB H' → Dp K H' (.ref RA) (.list (ys.map PyData.int)) := fun s => .lst (SqL.of (s _ _ hRA)) (DpAll.ints ys)
      have s6B := s6A.trans sB
      have s9B := sA.trans sB
      have W1B := (W1.same s6).same s6B
      obtain ⟨r, e1, e2, e3, e4⟩ := W1B.at (List.getElem?_eq_getElem hi')
      have gX : xss.getD i [] = xss[i] := by rw [List.getD_eq_getElem?_getD, List.getElem?_eq_getElem hi']; rfl
      rw [← gX] at e4
      have rowI := FW.waysIn.row i
      refine ⟨_, rfl, RA, _, rfl, dRA (Same.refl _), shY.able, shY.dict, shY.deep, shY.size, _, rfl, _, rfl, _, rfl, _, _, _, _, rfl, rfl, e2, e3, _, rfl, _, rfl, _, _, _, _, rfl, rfl, SqL.of (s9B _ _ hDU9), atI_nat (by rw [List.getElem?_map, hz]; rfl), .ref R1, r, zs[i], xss, xss.getD i [], rfl, dr6.same s6B, SqL.of e4, FW.waysIn, rowI.2, rowI.1, fun D HC sC nD DC => ?_⟩
      obtain ⟨kvs, ks, k1, k2, k3, k4⟩ := DC.sortedI (by omega)
      refine ⟨D, kvs, ks, rfl, Rd.of k1, k2, k3, fun ys2 t perm pw nt => ?_⟩
      obtain ⟨y1, y2⟩ := k4 ys2 perm pw
      obtain rfl : ys = ys2 := sorted_ext pw1 y1 fun x => (mm1 x).trans (y2 x).symm
      have sD := sC.trans (same_new5 (o := .lst (ys.map V.int)) nt)
      refine ⟨t, _, rfl, .lst (SqL.of upd_same) (DpAll.ints ys), shY.able, shY.dict, shY.deep, shY.size, rfl, _, rfl, ?_⟩
      rw [decide_eq_true rfl]
      refine iteF ?_
      generalize L2.upd HC t (.lst (ys.map V.int)) = HD at sD ⊢
      have s6D := s6B.trans sD
      refine ⟨_, rfl, _, rfl, .ref ga, i, _, _, _, nodes, es, rfl, dg6.same s6D, N, FW', hiX, l60, fun RB HE f2 ys3 sE nRB P2 hRB pw2 mm2 => ?_⟩
      rw [hX] at P2 mm2
      rw [P2.due FW.waysIn hi' dz] at mm2
      obtain rfl : ys = ys3 := sorted_ext pw1 pw2 fun x => (mm1 x).trans (mm2 x).symm
      refine ⟨_, rfl, .inl ⟨rfl, _, SqL.of hRB⟩, _, _, _, rfl, rfl, hRB, small1000 (by rw [List.length_map]; omega), ?_⟩
      have sF : Same HD (L2.upd HE RB (.lst (ys.map V.int ++ [.int 0]))) := same_upd sE nRB
      generalize L2.upd HE RB (.lst (ys.map V.int ++ [.int 0])) = HF at sF ⊢
      have sBF := sD.trans sF
      refine ⟨_, rfl, RA, _, rfl, dRA sBF, shY.able, shY.dict, shY.deep, shY.size, _, rfl, _, rfl, .ref ga, i, _, _, _, nodes, es, rfl, dg6.same (s6B.trans sBF), N, FW', hiX, l60, fun RC HG f3 ys4 sG nRC P3 hRC pw3 mm3 => ?_⟩
      rw [hX] at P3 mm3
      rw [P3.due FW.waysIn hi' dz] at mm3
      obtain rfl : ys = ys4 := sorted_ext pw1 pw3 fun x => (mm1 x).trans (mm3 x).symm
      refine ⟨RC, _, rfl, .lst (SqL.of hRC) (DpAll.ints ys), shY.able, shY.dict, shY.deep, shY.size, rfl, _, rfl, ?_⟩
      rw [decide_eq_true rfl]
      exact iteF ⟨_, _, _, rfl, (s9B.trans sBF).trans sG⟩
    · rintro σ HA ⟨y7, y11, y12, rfl, sA⟩
      exact qq _

end
/-! ### what the top has written, the end -/
theorem all_mk {l : PySem.W.OpenLaw} {w : World} {K : PySem.W.Frag} {h : Heap} {mg : Str → Option Value} {fa : Addr} (X : K.In h) (G : h.Ns mainGlobals mg) (hfa : mg "law" = some (.ref fa))
    {ftargets : Addr} {odtargets antargets : Option Addr} {sltargets : Array (Option Value)} {octargets kVtargets dctargets pmtargets cdtargets cttargets : Value}
    {freached : Addr} {odreached anreached : Option Addr} {slreached : Array (Option Value)} {ocreached kVreached dcreached pmreached cdreached ctreached : Value}
    {fleads_to : Addr} {odleads_to anleads_to : Option Addr} {slleads_to : Array (Option Value)} {ocleads_to kVleads_to dcleads_to pmleads_to cdleads_to ctleads_to : Value}
    {fcomes_from : Addr} {odcomes_from ancomes_from : Option Addr} {slcomes_from : Array (Option Value)} {occomes_from kVcomes_from dccomes_from pmcomes_from cdcomes_from ctcomes_from : Value}
    {foutward_order : Addr} {odoutward_order anoutward_order : Option Addr} {sloutward_order : Array (Option Value)} {ocoutward_order kVoutward_order dcoutward_order pmoutward_order cdoutward_order ctoutward_order : Value}
    {fmeeting : Addr} {odmeeting anmeeting : Option Addr} {slmeeting : Array (Option Value)} {ocmeeting kVmeeting dcmeeting pmmeeting cdmeeting ctmeeting : Value}
    {fimmediate_ones : Addr} {odimmediate_ones animmediate_ones : Option Addr} {slimmediate_ones : Array (Option Value)} {ocimmediate_ones kVimmediate_ones dcimmediate_ones pmimmediate_ones cdimmediate_ones ctimmediate_ones : Value}
    {fpostdominators : Addr} {odpostdominators anpostdominators : Option Addr} {slpostdominators : Array (Option Value)} {ocpostdominators kVpostdominators dcpostdominators pmpostdominators cdpostdominators ctpostdominators : Value}
    {fregion : Addr} {odregion anregion : Option Addr} {slregion : Array (Option Value)} {ocregion kVregion dcregion pmregion cdregion ctregion : Value}
    {flaw_stream : Addr} {odlaw_stream anlaw_stream : Option Addr} {sllaw_stream : Array (Option Value)} {oclaw_stream kVlaw_stream dclaw_stream pmlaw_stream cdlaw_stream ctlaw_stream : Value}
    {flaw_draw : Addr} {odlaw_draw anlaw_draw : Option Addr} {sllaw_draw : Array (Option Value)} {oclaw_draw kVlaw_draw dclaw_draw pmlaw_draw cdlaw_draw ctlaw_draw : Value}
    {flaw_word : Addr} {odlaw_word anlaw_word : Option Addr} {sllaw_word : Array (Option Value)} {oclaw_word kVlaw_word dclaw_word pmlaw_word cdlaw_word ctlaw_word : Value}
    {flaw_frame : Addr} {odlaw_frame anlaw_frame : Option Addr} {sllaw_frame : Array (Option Value)} {oclaw_frame kVlaw_frame dclaw_frame pmlaw_frame cdlaw_frame ctlaw_frame : Value}
    {flaw_kinds : Addr} {odlaw_kinds anlaw_kinds : Option Addr} {sllaw_kinds : Array (Option Value)} {oclaw_kinds kVlaw_kinds dclaw_kinds pmlaw_kinds cdlaw_kinds ctlaw_kinds : Value}
    {flaw_instruction : Addr} {odlaw_instruction anlaw_instruction : Option Addr} {sllaw_instruction : Array (Option Value)} {oclaw_instruction kVlaw_instruction dclaw_instruction pmlaw_instruction cdlaw_instruction ctlaw_instruction : Value}
    {flaw_ends : Addr} {odlaw_ends anlaw_ends : Option Addr} {sllaw_ends : Array (Option Value)} {oclaw_ends kVlaw_ends dclaw_ends pmlaw_ends cdlaw_ends ctlaw_ends : Value}
    {flaw_flow : Addr} {odlaw_flow anlaw_flow : Option Addr} {sllaw_flow : Array (Option Value)} {oclaw_flow kVlaw_flow dclaw_flow pmlaw_flow cdlaw_flow ctlaw_flow : Value}
    {flaw_leads : Addr} {odlaw_leads anlaw_leads : Option Addr} {sllaw_leads : Array (Option Value)} {oclaw_leads kVlaw_leads dclaw_leads pmlaw_leads cdlaw_leads ctlaw_leads : Value}
    {flaw_reached : Addr} {odlaw_reached anlaw_reached : Option Addr} {sllaw_reached : Array (Option Value)} {oclaw_reached kVlaw_reached dclaw_reached pmlaw_reached cdlaw_reached ctlaw_reached : Value}
    {flaw_ends_without : Addr} {odlaw_ends_without anlaw_ends_without : Option Addr} {sllaw_ends_without : Array (Option Value)} {oclaw_ends_without kVlaw_ends_without dclaw_ends_without pmlaw_ends_without cdlaw_ends_without ctlaw_ends_without : Value}
    {flaw : Addr} {odlaw anlaw : Option Addr} {sllaw : Array (Option Value)} {oclaw kVlaw dclaw pmlaw cdlaw ctlaw : Value}
    {tNO_NODE : Tok}
    (atargets : PySem.W.nsIn K mainGlobals "targets" = some (some (.ref ftargets)))
    (ltargets : K.lookup ftargets = some ⟨octargets, odtargets, .func (PySem.W.fnOf "targets" "targets" (defArgs s_targets) (defBody s_targets) (defScope s_targets) .none kVtargets dctargets pmtargets antargets cdtargets cttargets), sltargets⟩)
    (ctargets : PySem.W.codeIn K cdtargets "targets" = true)
    (ktargets : PySem.W.keepIn K (.ref ftargets) = true)
    (areached : PySem.W.nsIn K mainGlobals "reached" = some (some (.ref freached)))
    (lreached : K.lookup freached = some ⟨ocreached, odreached, .func (PySem.W.fnOf "reached" "reached" (defArgs s_reached) (defBody s_reached) (defScope s_reached) .none kVreached dcreached pmreached anreached cdreached ctreached), slreached⟩)
    (creached : PySem.W.codeIn K cdreached "reached" = true)
    (kreached : PySem.W.keepIn K (.ref freached) = true)
    (aleads_to : PySem.W.nsIn K mainGlobals "leads_to" = some (some (.ref fleads_to)))
    (lleads_to : K.lookup fleads_to = some ⟨ocleads_to, odleads_to, .func (PySem.W.fnOf "leads_to" "leads_to" (defArgs s_leads_to) (defBody s_leads_to) (defScope s_leads_to) .none kVleads_to dcleads_to pmleads_to anleads_to cdleads_to ctleads_to), slleads_to⟩)
    (cleads_to : PySem.W.codeIn K cdleads_to "leads_to" = true)
    (kleads_to : PySem.W.keepIn K (.ref fleads_to) = true)
    (acomes_from : PySem.W.nsIn K mainGlobals "comes_from" = some (some (.ref fcomes_from)))
    (lcomes_from : K.lookup fcomes_from = some ⟨occomes_from, odcomes_from, .func (PySem.W.fnOf "comes_from" "comes_from" (defArgs s_comes_from) (defBody s_comes_from) (defScope s_comes_from) .none kVcomes_from dccomes_from pmcomes_from ancomes_from cdcomes_from ctcomes_from), slcomes_from⟩)
    (ccomes_from : PySem.W.codeIn K cdcomes_from "comes_from" = true)
    (kcomes_from : PySem.W.keepIn K (.ref fcomes_from) = true)
    (aoutward_order : PySem.W.nsIn K mainGlobals "outward_order" = some (some (.ref foutward_order)))
    (loutward_order : K.lookup foutward_order = some ⟨ocoutward_order, odoutward_order, .func (PySem.W.fnOf "outward_order" "outward_order" (defArgs s_outward_order) (defBody s_outward_order) (defScope s_outward_order) .none kVoutward_order dcoutward_order pmoutward_order anoutward_order cdoutward_order ctoutward_order), sloutward_order⟩)
    (coutward_order : PySem.W.codeIn K cdoutward_order "outward_order" = true)
    (koutward_order : PySem.W.keepIn K (.ref foutward_order) = true)
    (ameeting : PySem.W.nsIn K mainGlobals "meeting" = some (some (.ref fmeeting)))
    (lmeeting : K.lookup fmeeting = some ⟨ocmeeting, odmeeting, .func (PySem.W.fnOf "meeting" "meeting" (defArgs s_meeting) (defBody s_meeting) (defScope s_meeting) .none kVmeeting dcmeeting pmmeeting anmeeting cdmeeting ctmeeting), slmeeting⟩)
    (cmeeting : PySem.W.codeIn K cdmeeting "meeting" = true)
    (kmeeting : PySem.W.keepIn K (.ref fmeeting) = true)
    (aimmediate_ones : PySem.W.nsIn K mainGlobals "immediate_ones" = some (some (.ref fimmediate_ones)))
    (limmediate_ones : K.lookup fimmediate_ones = some ⟨ocimmediate_ones, odimmediate_ones, .func (PySem.W.fnOf "immediate_ones" "immediate_ones" (defArgs s_immediate_ones) (defBody s_immediate_ones) (defScope s_immediate_ones) .none kVimmediate_ones dcimmediate_ones pmimmediate_ones animmediate_ones cdimmediate_ones ctimmediate_ones), slimmediate_ones⟩)
    (cimmediate_ones : PySem.W.codeIn K cdimmediate_ones "immediate_ones" = true)
    (kimmediate_ones : PySem.W.keepIn K (.ref fimmediate_ones) = true)
    (apostdominators : PySem.W.nsIn K mainGlobals "postdominators" = some (some (.ref fpostdominators)))
    (lpostdominators : K.lookup fpostdominators = some ⟨ocpostdominators, odpostdominators, .func (PySem.W.fnOf "postdominators" "postdominators" (defArgs s_postdominators) (defBody s_postdominators) (defScope s_postdominators) .none kVpostdominators dcpostdominators pmpostdominators anpostdominators cdpostdominators ctpostdominators), slpostdominators⟩)
    (cpostdominators : PySem.W.codeIn K cdpostdominators "postdominators" = true)
    (kpostdominators : PySem.W.keepIn K (.ref fpostdominators) = true)
    (aregion : PySem.W.nsIn K mainGlobals "region" = some (some (.ref fregion)))
    (lregion : K.lookup fregion = some ⟨ocregion, odregion, .func (PySem.W.fnOf "region" "region" (defArgs s_region) (defBody s_region) (defScope s_region) .none kVregion dcregion pmregion anregion cdregion ctregion), slregion⟩)
    (cregion : PySem.W.codeIn K cdregion "region" = true)
    (kregion : PySem.W.keepIn K (.ref fregion) = true)
    (alaw_stream : PySem.W.nsIn K mainGlobals "_law_stream" = some (some (.ref flaw_stream)))
    (llaw_stream : K.lookup flaw_stream = some ⟨oclaw_stream, odlaw_stream, .func (PySem.W.fnOf "_law_stream" "_law_stream" (defArgs s_law_stream) (defBody s_law_stream) (defScope s_law_stream) .none kVlaw_stream dclaw_stream pmlaw_stream anlaw_stream cdlaw_stream ctlaw_stream), sllaw_stream⟩)
    (claw_stream : PySem.W.codeIn K cdlaw_stream "_law_stream" = true)
    (klaw_stream : PySem.W.keepIn K (.ref flaw_stream) = true)
    (alaw_draw : PySem.W.nsIn K mainGlobals "_law_draw" = some (some (.ref flaw_draw)))
    (llaw_draw : K.lookup flaw_draw = some ⟨oclaw_draw, odlaw_draw, .func (PySem.W.fnOf "_law_draw" "_law_draw" (defArgs s_law_draw) (defBody s_law_draw) (defScope s_law_draw) .none kVlaw_draw dclaw_draw pmlaw_draw anlaw_draw cdlaw_draw ctlaw_draw), sllaw_draw⟩)
    (claw_draw : PySem.W.codeIn K cdlaw_draw "_law_draw" = true)
    (klaw_draw : PySem.W.keepIn K (.ref flaw_draw) = true)
    (alaw_word : PySem.W.nsIn K mainGlobals "_law_word" = some (some (.ref flaw_word)))
    (llaw_word : K.lookup flaw_word = some ⟨oclaw_word, odlaw_word, .func (PySem.W.fnOf "_law_word" "_law_word" (defArgs s_law_word) (defBody s_law_word) (defScope s_law_word) .none kVlaw_word dclaw_word pmlaw_word anlaw_word cdlaw_word ctlaw_word), sllaw_word⟩)
    (claw_word : PySem.W.codeIn K cdlaw_word "_law_word" = true)
    (klaw_word : PySem.W.keepIn K (.ref flaw_word) = true)
    (alaw_frame : PySem.W.nsIn K mainGlobals "_law_frame" = some (some (.ref flaw_frame)))
    (llaw_frame : K.lookup flaw_frame = some ⟨oclaw_frame, odlaw_frame, .func (PySem.W.fnOf "_law_frame" "_law_frame" (defArgs s_law_frame) (defBody s_law_frame) (defScope s_law_frame) .none kVlaw_frame dclaw_frame pmlaw_frame anlaw_frame cdlaw_frame ctlaw_frame), sllaw_frame⟩)
    (claw_frame : PySem.W.codeIn K cdlaw_frame "_law_frame" = true)
    (klaw_frame : PySem.W.keepIn K (.ref flaw_frame) = true)
    (alaw_kinds : PySem.W.nsIn K mainGlobals "_law_kinds" = some (some (.ref flaw_kinds)))
    (llaw_kinds : K.lookup flaw_kinds = some ⟨oclaw_kinds, odlaw_kinds, .func (PySem.W.fnOf "_law_kinds" "_law_kinds" (defArgs s_law_kinds) (defBody s_law_kinds) (defScope s_law_kinds) .none kVlaw_kinds dclaw_kinds pmlaw_kinds anlaw_kinds cdlaw_kinds ctlaw_kinds), sllaw_kinds⟩)
    (claw_kinds : PySem.W.codeIn K cdlaw_kinds "_law_kinds" = true)
    (klaw_kinds : PySem.W.keepIn K (.ref flaw_kinds) = true)
    (alaw_instruction : PySem.W.nsIn K mainGlobals "_law_instruction" = some (some (.ref flaw_instruction)))
    (llaw_instruction : K.lookup flaw_instruction = some ⟨oclaw_instruction, odlaw_instruction, .func (PySem.W.fnOf "_law_instruction" "_law_instruction" (defArgs s_law_instruction) (defBody s_law_instruction) (defScope s_law_instruction) .none kVlaw_instruction dclaw_instruction pmlaw_instruction anlaw_instruction cdlaw_instruction ctlaw_instruction), sllaw_instruction⟩)
    (claw_instruction : PySem.W.codeIn K cdlaw_instruction "_law_instruction" = true)
    (klaw_instruction : PySem.W.keepIn K (.ref flaw_instruction) = true)
    (alaw_ends : PySem.W.nsIn K mainGlobals "_law_ends" = some (some (.ref flaw_ends)))
    (llaw_ends : K.lookup flaw_ends = some ⟨oclaw_ends, odlaw_ends, .func (PySem.W.fnOf "_law_ends" "_law_ends" (defArgs s_law_ends) (defBody s_law_ends) (defScope s_law_ends) .none kVlaw_ends dclaw_ends pmlaw_ends anlaw_ends cdlaw_ends ctlaw_ends), sllaw_ends⟩)
    (claw_ends : PySem.W.codeIn K cdlaw_ends "_law_ends" = true)
    (klaw_ends : PySem.W.keepIn K (.ref flaw_ends) = true)
    (alaw_flow : PySem.W.nsIn K mainGlobals "_law_flow" = some (some (.ref flaw_flow)))
    (llaw_flow : K.lookup flaw_flow = some ⟨oclaw_flow, odlaw_flow, .func (PySem.W.fnOf "_law_flow" "_law_flow" (defArgs s_law_flow) (defBody s_law_flow) (defScope s_law_flow) .none kVlaw_flow dclaw_flow pmlaw_flow anlaw_flow cdlaw_flow ctlaw_flow), sllaw_flow⟩)
    (claw_flow : PySem.W.codeIn K cdlaw_flow "_law_flow" = true)
    (klaw_flow : PySem.W.keepIn K (.ref flaw_flow) = true)
    (alaw_leads : PySem.W.nsIn K mainGlobals "_law_leads" = some (some (.ref flaw_leads)))
    (llaw_leads : K.lookup flaw_leads = some ⟨oclaw_leads, odlaw_leads, .func (PySem.W.fnOf "_law_leads" "_law_leads" (defArgs s_law_leads) (defBody s_law_leads) (defScope s_law_leads) .none kVlaw_leads dclaw_leads pmlaw_leads anlaw_leads cdlaw_leads ctlaw_leads), sllaw_leads⟩)
    (claw_leads : PySem.W.codeIn K cdlaw_leads "_law_leads" = true)
    (klaw_leads : PySem.W.keepIn K (.ref flaw_leads) = true)
    (alaw_reached : PySem.W.nsIn K mainGlobals "_law_reached" = some (some (.ref flaw_reached)))
    (llaw_reached : K.lookup flaw_reached = some ⟨oclaw_reached, odlaw_reached, .func (PySem.W.fnOf "_law_reached" "_law_reached" (defArgs s_law_reached) (defBody s_law_reached) (defScope s_law_reached) .none kVlaw_reached dclaw_reached pmlaw_reached anlaw_reached cdlaw_reached ctlaw_reached), sllaw_reached⟩)
    (claw_reached : PySem.W.codeIn K cdlaw_reached "_law_reached" = true)
    (klaw_reached : PySem.W.keepIn K (.ref flaw_reached) = true)
    (alaw_ends_without : PySem.W.nsIn K mainGlobals "_law_ends_without" = some (some (.ref flaw_ends_without)))
    (llaw_ends_without : K.lookup flaw_ends_without = some ⟨oclaw_ends_without, odlaw_ends_without, .func (PySem.W.fnOf "_law_ends_without" "_law_ends_without" (defArgs s_law_ends_without) (defBody s_law_ends_without) (defScope s_law_ends_without) .none kVlaw_ends_without dclaw_ends_without pmlaw_ends_without anlaw_ends_without cdlaw_ends_without ctlaw_ends_without), sllaw_ends_without⟩)
    (claw_ends_without : PySem.W.codeIn K cdlaw_ends_without "_law_ends_without" = true)
    (klaw_ends_without : PySem.W.keepIn K (.ref flaw_ends_without) = true)
    (alaw : PySem.W.nsIn K mainGlobals "law" = some (some (.ref flaw)))
    (llaw : K.lookup flaw = some ⟨oclaw, odlaw, .func (PySem.W.fnOf "law" "law" (defArgs s_law) (defBody s_law) (defScope s_law) .none kVlaw dclaw pmlaw anlaw cdlaw ctlaw), sllaw⟩)
    (claw : PySem.W.codeIn K cdlaw "law" = true)
    (klaw : PySem.W.keepIn K (.ref flaw) = true)
    (zabs : PySem.W.nsIn K mainGlobals "abs" = some none)
    (zbool : PySem.W.nsIn K mainGlobals "bool" = some none)
    (zenumerate : PySem.W.nsIn K mainGlobals "enumerate" = some none)
    (zint : PySem.W.nsIn K mainGlobals "int" = some none)
    (zisinstance : PySem.W.nsIn K mainGlobals "isinstance" = some none)
    (zlen : PySem.W.nsIn K mainGlobals "len" = some none)
    (zlist : PySem.W.nsIn K mainGlobals "list" = some none)
    (zmax : PySem.W.nsIn K mainGlobals "max" = some none)
    (zrange : PySem.W.nsIn K mainGlobals "range" = some none)
    (zrepr : PySem.W.nsIn K mainGlobals "repr" = some none)
    (zsorted : PySem.W.nsIn K mainGlobals "sorted" = some none)
    (ztuple : PySem.W.nsIn K mainGlobals "tuple" = some none)
    (iNO_NODE : PySem.W.nsIn K mainGlobals "NO_NODE" = some (some (.int (-1) tNO_NODE))) :
    ∃ fd : FuncData, (∀ (s : Shared) (v : Value), BindsTo s fd ⟨[v], []⟩ [("script", v)]) ∧ LawRun l.prog w K mg fa fd "script" 63 := by
  have e := hfa.symm.trans (PySem.W.mg_of X G alaw)
  cases e
  let T : Tx w K mg := {
    a_targets := ftargets,
    d_targets := _,
    F_targets := fun_mk (st := s_targets) ltargets ctargets ktargets,
    b_targets := (fun_mk (st := s_targets) ltargets ctargets ktargets).binds (ps := ["end"]) fun _ _ _ _ _ _ us hl => match us, hl with | [_], _ => rfl,
    g_targets := PySem.W.mg_of X G atargets,
    a_reached := freached,
    d_reached := _,
    F_reached := fun_mk (st := s_reached) lreached creached kreached,
    b_reached := (fun_mk (st := s_reached) lreached creached kreached).binds (ps := ["ways", "first"]) fun _ _ _ _ _ _ us hl => match us, hl with | [_, _], _ => rfl,
    g_reached := PySem.W.mg_of X G areached,
    a_leads_to := fleads_to,
    d_leads_to := _,
    F_leads_to := fun_mk (st := s_leads_to) lleads_to cleads_to kleads_to,
    b_leads_to := (fun_mk (st := s_leads_to) lleads_to cleads_to kleads_to).binds (ps := ["graph"]) fun _ _ _ _ _ _ us hl => match us, hl with | [_], _ => rfl,
    g_leads_to := PySem.W.mg_of X G aleads_to,
    a_comes_from := fcomes_from,
    d_comes_from := _,
    F_comes_from := fun_mk (st := s_comes_from) lcomes_from ccomes_from kcomes_from,
    b_comes_from := (fun_mk (st := s_comes_from) lcomes_from ccomes_from kcomes_from).binds (ps := ["graph"]) fun _ _ _ _ _ _ us hl => match us, hl with | [_], _ => rfl,
    g_comes_from := PySem.W.mg_of X G acomes_from,
    a_outward_order := foutward_order,
    d_outward_order := _,
    F_outward_order := fun_mk (st := s_outward_order) loutward_order coutward_order koutward_order,
    b_outward_order := (fun_mk (st := s_outward_order) loutward_order coutward_order koutward_order).binds (ps := ["root", "ways"]) fun _ _ _ _ _ _ us hl => match us, hl with | [_, _], _ => rfl,
    g_outward_order := PySem.W.mg_of X G aoutward_order,
    a_meeting := fmeeting,
    d_meeting := _,
    F_meeting := fun_mk (st := s_meeting) lmeeting cmeeting kmeeting,
    b_meeting := (fun_mk (st := s_meeting) lmeeting cmeeting kmeeting).binds (ps := ["found", "place", "one", "other"]) fun _ _ _ _ _ _ us hl => match us, hl with | [_, _, _, _], _ => rfl,
    g_meeting := PySem.W.mg_of X G ameeting,
    a_immediate_ones := fimmediate_ones,
    d_immediate_ones := _,
    F_immediate_ones := fun_mk (st := s_immediate_ones) limmediate_ones cimmediate_ones kimmediate_ones,
    b_immediate_ones := (fun_mk (st := s_immediate_ones) limmediate_ones cimmediate_ones kimmediate_ones).binds (ps := ["root", "ways", "origins"]) fun _ _ _ _ _ _ us hl => match us, hl with | [_, _, _], _ => rfl,
    g_immediate_ones := PySem.W.mg_of X G aimmediate_ones,
    a_postdominators := fpostdominators,
    d_postdominators := _,
    F_postdominators := fun_mk (st := s_postdominators) lpostdominators cpostdominators kpostdominators,
    b_postdominators := (fun_mk (st := s_postdominators) lpostdominators cpostdominators kpostdominators).binds (ps := ["graph"]) fun _ _ _ _ _ _ us hl => match us, hl with | [_], _ => rfl,
    g_postdominators := PySem.W.mg_of X G apostdominators,
    a_region := fregion,
    d_region := _,
    F_region := fun_mk (st := s_region) lregion cregion kregion,
    b_region := (fun_mk (st := s_region) lregion cregion kregion).binds (ps := ["graph", "b"]) fun _ _ _ _ _ _ us hl => match us, hl with | [_, _], _ => rfl,
    g_region := PySem.W.mg_of X G aregion,
    a_law_stream := flaw_stream,
    d_law_stream := _,
    F_law_stream := fun_mk (st := s_law_stream) llaw_stream claw_stream klaw_stream,
    b_law_stream := (fun_mk (st := s_law_stream) llaw_stream claw_stream klaw_stream).binds (ps := ["script"]) fun _ _ _ _ _ _ us hl => match us, hl with | [_], _ => rfl,
    g_law_stream := PySem.W.mg_of X G alaw_stream,
    a_law_draw := flaw_draw,
    d_law_draw := _,
    F_law_draw := fun_mk (st := s_law_draw) llaw_draw claw_draw klaw_draw,
    b_law_draw := (fun_mk (st := s_law_draw) llaw_draw claw_draw klaw_draw).binds (ps := ["stream", "many"]) fun _ _ _ _ _ _ us hl => match us, hl with | [_, _], _ => rfl,
    g_law_draw := PySem.W.mg_of X G alaw_draw,
    a_law_word := flaw_word,
    d_law_word := _,
    F_law_word := fun_mk (st := s_law_word) llaw_word claw_word klaw_word,
    b_law_word := (fun_mk (st := s_law_word) llaw_word claw_word klaw_word).binds (ps := ["stream"]) fun _ _ _ _ _ _ us hl => match us, hl with | [_], _ => rfl,
    g_law_word := PySem.W.mg_of X G alaw_word,
    a_law_frame := flaw_frame,
    d_law_frame := _,
    F_law_frame := fun_mk (st := s_law_frame) llaw_frame claw_frame klaw_frame,
    b_law_frame := (fun_mk (st := s_law_frame) llaw_frame claw_frame klaw_frame).binds (ps := ["stream"]) fun _ _ _ _ _ _ us hl => match us, hl with | [_], _ => rfl,
    g_law_frame := PySem.W.mg_of X G alaw_frame,
    a_law_kinds := flaw_kinds,
    d_law_kinds := _,
    F_law_kinds := fun_mk (st := s_law_kinds) llaw_kinds claw_kinds klaw_kinds,
    b_law_kinds := (fun_mk (st := s_law_kinds) llaw_kinds claw_kinds klaw_kinds).binds (ps := ["frame", "kind"]) fun _ _ _ _ _ _ us hl => match us, hl with | [_, _], _ => rfl,
    g_law_kinds := PySem.W.mg_of X G alaw_kinds,
    a_law_instruction := flaw_instruction,
    d_law_instruction := _,
    F_law_instruction := fun_mk (st := s_law_instruction) llaw_instruction claw_instruction klaw_instruction,
    b_law_instruction := (fun_mk (st := s_law_instruction) llaw_instruction claw_instruction klaw_instruction).binds (ps := ["stream", "many", "frame", "waits"]) fun _ _ _ _ _ _ us hl => match us, hl with | [_, _, _, _], _ => rfl,
    g_law_instruction := PySem.W.mg_of X G alaw_instruction,
    a_law_ends := flaw_ends,
    d_law_ends := _,
    F_law_ends := fun_mk (st := s_law_ends) llaw_ends claw_ends klaw_ends,
    b_law_ends := (fun_mk (st := s_law_ends) llaw_ends claw_ends klaw_ends).binds (ps := ["stream", "count", "many"]) fun _ _ _ _ _ _ us hl => match us, hl with | [_, _, _], _ => rfl,
    g_law_ends := PySem.W.mg_of X G alaw_ends,
    a_law_flow := flaw_flow,
    d_law_flow := _,
    F_law_flow := fun_mk (st := s_law_flow) llaw_flow claw_flow klaw_flow,
    b_law_flow := (fun_mk (st := s_law_flow) llaw_flow claw_flow klaw_flow).binds (ps := ["stream", "most", "waits"]) fun _ _ _ _ _ _ us hl => match us, hl with | [_, _, _], _ => rfl,
    g_law_flow := PySem.W.mg_of X G alaw_flow,
    a_law_leads := flaw_leads,
    d_law_leads := _,
    F_law_leads := fun_mk (st := s_law_leads) llaw_leads claw_leads klaw_leads,
    b_law_leads := (fun_mk (st := s_law_leads) llaw_leads claw_leads klaw_leads).binds (ps := ["nodes"]) fun _ _ _ _ _ _ us hl => match us, hl with | [_], _ => rfl,
    g_law_leads := PySem.W.mg_of X G alaw_leads,
    a_law_reached := flaw_reached,
    d_law_reached := _,
    F_law_reached := fun_mk (st := s_law_reached) llaw_reached claw_reached klaw_reached,
    b_law_reached := (fun_mk (st := s_law_reached) llaw_reached claw_reached klaw_reached).binds (ps := ["rows", "starts", "without"]) fun _ _ _ _ _ _ us hl => match us, hl with | [_, _, _], _ => rfl,
    g_law_reached := PySem.W.mg_of X G alaw_reached,
    a_law_ends_without := flaw_ends_without,
    d_law_ends_without := _,
    F_law_ends_without := fun_mk (st := s_law_ends_without) llaw_ends_without claw_ends_without klaw_ends_without,
    b_law_ends_without := (fun_mk (st := s_law_ends_without) llaw_ends_without claw_ends_without klaw_ends_without).binds (ps := ["rows", "exits", "b", "a"]) fun _ _ _ _ _ _ us hl => match us, hl with | [_, _, _, _], _ => rfl,
    g_law_ends_without := PySem.W.mg_of X G alaw_ends_without,
    a_law := fa,
    d_law := _,
    F_law := fun_mk (st := s_law) llaw claw klaw,
    g_law := PySem.W.mg_of X G alaw,
    z_abs := PySem.W.mg_none_of X G zabs,
    z_bool := PySem.W.mg_none_of X G zbool,
    z_enumerate := PySem.W.mg_none_of X G zenumerate,
    z_int := PySem.W.mg_none_of X G zint,
    z_isinstance := PySem.W.mg_none_of X G zisinstance,
    z_len := PySem.W.mg_none_of X G zlen,
    z_list := PySem.W.mg_none_of X G zlist,
    z_max := PySem.W.mg_none_of X G zmax,
    z_range := PySem.W.mg_none_of X G zrange,
    z_repr := PySem.W.mg_none_of X G zrepr,
    z_sorted := PySem.W.mg_none_of X G zsorted,
    z_tuple := PySem.W.mg_none_of X G ztuple,
    q_NO_NODE := ⟨_, PySem.W.mg_of X G iNO_NODE, ⟨_, rfl⟩⟩ }
  exact ⟨_, fun s v => .of_eq rfl, ok_law T⟩
end D7
open PySem PySem.W PyProof.Rows
set_option maxRecDepth 100000 in
set_option maxHeartbeats 0 in
theorem PySem.Challenge.cw_drawloom_k27_postdominators_holds : PySem.Challenge.rw_drawloom_k27_postdominators.Holds := by
  w_on; o_law; k_head; (case hw => w_witness2)
  k_fill
  refine L2.walk_at_place (l := PySem.Challenge.rw_drawloom_k27_postdominators) (n := 63) (x := "script") rfl (by decide) rfl (fun w h Y => PySem.W.kIn_of Y) ?F
  case F =>
    intro w mg fa h KX G hmg
    refine' D7.all_mk KX G hmg ?atargets ?ltargets ?ctargets ?ktargets ?areached ?lreached ?creached ?kreached ?aleads_to ?lleads_to ?cleads_to ?kleads_to ?acomes_from ?lcomes_from ?ccomes_from ?kcomes_from ?aoutward_order ?loutward_order ?coutward_order ?koutward_order ?ameeting ?lmeeting ?cmeeting ?kmeeting ?aimmediate_ones ?limmediate_ones ?cimmediate_ones ?kimmediate_ones ?apostdominators ?lpostdominators ?cpostdominators ?kpostdominators ?aregion ?lregion ?cregion ?kregion ?alaw_stream ?llaw_stream ?claw_stream ?klaw_stream ?alaw_draw ?llaw_draw ?claw_draw ?klaw_draw ?alaw_word ?llaw_word ?claw_word ?klaw_word ?alaw_frame ?llaw_frame ?claw_frame ?klaw_frame ?alaw_kinds ?llaw_kinds ?claw_kinds ?klaw_kinds ?alaw_instruction ?llaw_instruction ?claw_instruction ?klaw_instruction ?alaw_ends ?llaw_ends ?claw_ends ?klaw_ends ?alaw_flow ?llaw_flow ?claw_flow ?klaw_flow ?alaw_leads ?llaw_leads ?claw_leads ?klaw_leads ?alaw_reached ?llaw_reached ?claw_reached ?klaw_reached ?alaw_ends_without ?llaw_ends_without ?claw_ends_without ?klaw_ends_without ?alaw ?llaw ?claw ?klaw ?zabs ?zbool ?zenumerate ?zint ?zisinstance ?zlen ?zlist ?zmax ?zrange ?zrepr ?zsorted ?ztuple ?iNO_NODE
    (case atargets => k_is)
    (case ltargets => k_is)
    (case ctargets => k_is)
    (case ktargets => k_is)
    (case areached => k_is)
    (case lreached => k_is)
    (case creached => k_is)
    (case kreached => k_is)
    (case aleads_to => k_is)
    (case lleads_to => k_is)
    (case cleads_to => k_is)
    (case kleads_to => k_is)
    (case acomes_from => k_is)
    (case lcomes_from => k_is)
    (case ccomes_from => k_is)
    (case kcomes_from => k_is)
    (case aoutward_order => k_is)
    (case loutward_order => k_is)
    (case coutward_order => k_is)
    (case koutward_order => k_is)
    (case ameeting => k_is)
    (case lmeeting => k_is)
    (case cmeeting => k_is)
    (case kmeeting => k_is)
    (case aimmediate_ones => k_is)
    (case limmediate_ones => k_is)
    (case cimmediate_ones => k_is)
    (case kimmediate_ones => k_is)
    (case apostdominators => k_is)
    (case lpostdominators => k_is)
    (case cpostdominators => k_is)
    (case kpostdominators => k_is)
    (case aregion => k_is)
    (case lregion => k_is)
    (case cregion => k_is)
    (case kregion => k_is)
    (case alaw_stream => k_is)
    (case llaw_stream => k_is)
    (case claw_stream => k_is)
    (case klaw_stream => k_is)
    (case alaw_draw => k_is)
    (case llaw_draw => k_is)
    (case claw_draw => k_is)
    (case klaw_draw => k_is)
    (case alaw_word => k_is)
    (case llaw_word => k_is)
    (case claw_word => k_is)
    (case klaw_word => k_is)
    (case alaw_frame => k_is)
    (case llaw_frame => k_is)
    (case claw_frame => k_is)
    (case klaw_frame => k_is)
    (case alaw_kinds => k_is)
    (case llaw_kinds => k_is)
    (case claw_kinds => k_is)
    (case klaw_kinds => k_is)
    (case alaw_instruction => k_is)
    (case llaw_instruction => k_is)
    (case claw_instruction => k_is)
    (case klaw_instruction => k_is)
    (case alaw_ends => k_is)
    (case llaw_ends => k_is)
    (case claw_ends => k_is)
    (case klaw_ends => k_is)
    (case alaw_flow => k_is)
    (case llaw_flow => k_is)
    (case claw_flow => k_is)
    (case klaw_flow => k_is)
    (case alaw_leads => k_is)
    (case llaw_leads => k_is)
    (case claw_leads => k_is)
    (case klaw_leads => k_is)
    (case alaw_reached => k_is)
    (case llaw_reached => k_is)
    (case claw_reached => k_is)
    (case klaw_reached => k_is)
    (case alaw_ends_without => k_is)
    (case llaw_ends_without => k_is)
    (case claw_ends_without => k_is)
    (case klaw_ends_without => k_is)
    (case alaw => k_is)
    (case llaw => k_is)
    (case claw => k_is)
    (case klaw => k_is)
    (case zabs => k_is)
    (case zbool => k_is)
    (case zenumerate => k_is)
    (case zint => k_is)
    (case zisinstance => k_is)
    (case zlen => k_is)
    (case zlist => k_is)
    (case zmax => k_is)
    (case zrange => k_is)
    (case zrepr => k_is)
    (case zsorted => k_is)
    (case ztuple => k_is)
    (case iNO_NODE => k_is)
