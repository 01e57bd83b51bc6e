import PyProof.Rows.All
import Wide.All
import OpenK.AllK
import Wide.FinOn
import HandS.ForMost
import HandS.ForExc
import HandS.Wide
import HandS.IsInst
import HandS.More
import HandS.Codes
import HandS.Walk
import HandS.TryOnly
import HandS.Strs
import HandS.Zip
import HandS.TupAny
import HandS.TupMul
import HandS.ExcIs
import KE.RegKIsAll
import PySem.Challenge.RW_drawloom_k22_ways_of_graphs
set_option Elab.async false
set_option linter.all false
set_option maxRecDepth 100000
/-! Flow graphs. -/
namespace L2
open PySem PySem.Spec PyProof.Rows
/-! ### data: what a value is, whatever stands where -/
theorem Same.sqt {K : PySem.W.Frag} {H H' : Hp} {a : Addr} {xs : List V} (e : Same H H') (h : SqT K H a xs) : SqT K H' a xs := by
  rcases h with (h | ⟨o, h⟩) | h
  · exact .inl (.inl (e _ _ h))
  · exact .inl (.inr ⟨o, e _ _ h⟩)
  · exact .inr h
/-- what stands outside of M stands as before -/
def Off (M : Addr → Prop) (H H' : Hp) : Prop := ∀ b o, ¬ M b → H b = some o → H' b = some o
theorem Off.refl {M : Addr → Prop} {H : Hp} : Off M H H := fun _ _ _ h => h
theorem Off.trans {M : Addr → Prop} {H H1 H2 : Hp} (a : Off M H H1) (b : Off M H1 H2) : Off M H H2 := fun c o n h => b c o n (a c o n h)
theorem Off.of {M : Addr → Prop} {H H' : Hp} (h : Same H H') : Off M H H' := fun b o _ e => h b o e
theorem Off.mono {M N : Addr → Prop} {H H' : Hp} (h : Off M H H') (s : ∀ b, M b → N b) : Off N H H' := fun b o n e => h b o (fun m => n (s b m)) e
/-- a list, a tuple that is read and is not in M -/
def SqLM (M : Addr → Prop) (K : PySem.W.Frag) (H : Hp) (a : Addr) (xs : List V) : Prop :=
  (¬ M a ∧ Rd H a (.lst xs)) ∨ ∃ (o : Obj) (its : Array Value) (n : Nat), K.lookup a = some o ∧ o.cls = .type "list" ∧ o.dict = none ∧ o.data = .seq its n ∧ its.size ≤ sizeLine ∧ Vals xs its.toList
def SqTM (M : Addr → Prop) (K : PySem.W.Frag) (H : Hp) (a : Addr) (xs : List V) : Prop :=
  (¬ M a ∧ Rd H a (.tup xs)) ∨ ∃ (o : Obj) (its : Array Value) (n : Nat), K.lookup a = some o ∧ o.cls = .type "tuple" ∧ o.data = .seq its n ∧ its.size ≤ sizeLine ∧ Vals xs its.toList
theorem SqLM.sq {M : Addr → Prop} {K : PySem.W.Frag} {H : Hp} {a : Addr} {xs : List V} (h : SqLM M K H a xs) : SqL K H a xs := by
  rcases h with ⟨_, h⟩ | h
  · exact .inl h
  · exact .inr h
theorem SqTM.sq {M : Addr → Prop} {K : PySem.W.Frag} {H : Hp} {a : Addr} {xs : List V} (h : SqTM M K H a xs) : SqT K H a xs := by
  rcases h with ⟨_, h⟩ | h
  · exact .inl h
  · exact .inr h
theorem Rd.off {M : Addr → Prop} {H H' : Hp} {a : Addr} {u : HO} (e : Off M H H') (n : ¬ M a) (h : Rd H a u) : Rd H' a u := by
  rcases h with h | ⟨o, h⟩
  · exact .inl (e _ _ n h)
  · exact .inr ⟨o, e _ _ n h⟩
theorem Rd.some {H : Hp} {a : Addr} {u : HO} (h : Rd H a u) : H a ≠ none := by
  rcases h with h | ⟨o, h⟩ <;> rw [h] <;> intro z <;> cases z
theorem SqLM.off {M : Addr → Prop} {K : PySem.W.Frag} {H H' : Hp} {a : Addr} {xs : List V} (e : Off M H H') (h : SqLM M K H a xs) : SqLM M K H' a xs := by
  rcases h with ⟨n, h⟩ | h
  · exact .inl ⟨n, Rd.off e n h⟩
  · exact .inr h
theorem SqTM.off {M : Addr → Prop} {K : PySem.W.Frag} {H H' : Hp} {a : Addr} {xs : List V} (e : Off M H H') (h : SqTM M K H a xs) : SqTM M K H' a xs := by
  rcases h with ⟨n, h⟩ | h
  · exact .inl ⟨n, Rd.off e n h⟩
  · exact .inr h
theorem SqLM.more {M N : Addr → Prop} {K : PySem.W.Frag} {H : Hp} {a : Addr} {xs : List V} (s : ∀ b, N b → M b ∨ H b = none) (h : SqLM M K H a xs) : SqLM N K H a xs := by
  rcases h with ⟨n, h⟩ | h
  · exact .inl ⟨fun z => (s _ z).elim n h.some, h⟩
  · exact .inr h
theorem SqTM.more {M N : Addr → Prop} {K : PySem.W.Frag} {H : Hp} {a : Addr} {xs : List V} (s : ∀ b, N b → M b ∨ H b = none) (h : SqTM M K H a xs) : SqTM N K H a xs := by
  rcases h with ⟨n, h⟩ | h
  · exact .inl ⟨fun z => (s _ z).elim n h.some, h⟩
  · exact .inr h
mutual
/-- data none of whose objects is in M -/
inductive Dt (M : Addr → Prop) (K : PySem.W.Frag) (H : Hp) : V → PyData → Prop
  | non : Dt M K H .non .none
  | bl (b : Bool) : Dt M K H (.bl b) (.bool b)
  | int (i : Int) : Dt M K H (.int i) (.int i)
  | str (x : Str) : Dt M K H (.str x) (.str x)
  | lst {a : Addr} {xs : List V} {ds : List PyData} : SqLM M K H a xs → DtAll M K H xs ds → Dt M K H (.ref a) (.list ds)
  | tup {a : Addr} {xs : List V} {ds : List PyData} : SqTM M K H a xs → DtAll M K H xs ds → Dt M K H (.ref a) (.tuple ds)
inductive DtAll (M : Addr → Prop) (K : PySem.W.Frag) (H : Hp) : List V → List PyData → Prop
  | nil : DtAll M K H [] []
  | cons {v : V} {vs : List V} {d : PyData} {ds : List PyData} : Dt M K H v d → DtAll M K H vs ds → DtAll M K H (v :: vs) (d :: ds)
end
theorem SqL.off {M : Addr → Prop} {K : PySem.W.Frag} {H H' : Hp} {a : Addr} {xs : List V} (e : Off M H H') (n : ¬ M a) (h : SqL K H a xs) : SqL K H' a xs := by
  rcases h with (h | ⟨o, h⟩) | h
  · exact .inl (.inl (e _ _ n h))
  · exact .inl (.inr ⟨o, e _ _ n h⟩)
  · exact .inr h
theorem SqT.off {M : Addr → Prop} {K : PySem.W.Frag} {H H' : Hp} {a : Addr} {xs : List V} (e : Off M H H') (n : ¬ M a) (h : SqT K H a xs) : SqT K H' a xs := by
  rcases h with (h | ⟨o, h⟩) | h
  · exact .inl (.inl (e _ _ n h))
  · exact .inl (.inr ⟨o, e _ _ n h⟩)
  · exact .inr h
section
variable {M N : Addr → Prop} {K : PySem.W.Frag} {H H' : Hp}
mutual
theorem Dt.off (e : Off M H H') : ∀ {v : V} {d : PyData}, Dt M K H v d → Dt M K H' v d
  | _, _, .non => .non
  | _, _, .bl b => .bl b
  | _, _, .int i => .int i
  | _, _, .str x => .str x
  | _, _, .lst h r => .lst (h.off e) (DtAll.off e r)
  | _, _, .tup h r => .tup (h.off e) (DtAll.off e r)
theorem DtAll.off (e : Off M H H') : ∀ {vs : List V} {ds : List PyData}, DtAll M K H vs ds → DtAll M K H' vs ds
  | _, _, .nil => .nil
  | _, _, .cons h r => .cons (Dt.off e h) (DtAll.off e r)
end
mutual
theorem Dt.more (s : ∀ b, N b → M b ∨ H b = none) : ∀ {v : V} {d : PyData}, Dt M K H v d → Dt N K H v d
  | _, _, .non => .non
  | _, _, .bl b => .bl b
  | _, _, .int i => .int i
  | _, _, .str x => .str x
  | _, _, .lst h r => .lst (h.more s) (DtAll.more s r)
  | _, _, .tup h r => .tup (h.more s) (DtAll.more s r)
theorem DtAll.more (s : ∀ b, N b → M b ∨ H b = none) : ∀ {vs : List V} {ds : List PyData}, DtAll M K H vs ds → DtAll N K H vs ds
  | _, _, .nil => .nil
  | _, _, .cons h r => .cons (Dt.more s h) (DtAll.more s r)
end
mutual
theorem Dt.dp : ∀ {v : V} {d : PyData}, Dt M K H v d → Dp K H v d
  | _, _, .non => .non
  | _, _, .bl b => .bl b
  | _, _, .int i => .int i
  | _, _, .str x => .str x
  | _, _, .lst h r => .lst h.sq (DtAll.dp r)
  | _, _, .tup h r => .tup h.sq (DtAll.dp r)
theorem DtAll.dp : ∀ {vs : List V} {ds : List PyData}, DtAll M K H vs ds → DpAll K H vs ds
  | _, _, .nil => .nil
  | _, _, .cons h r => .cons (Dt.dp h) (DtAll.dp r)
end
mutual
theorem Dp.same (e : Same H H') : ∀ {v : V} {d : PyData}, Dp K H v d → Dp K H' v d
  | _, _, .non => .non
  | _, _, .bl b => .bl b
  | _, _, .int i => .int i
  | _, _, .str x => .str x
  | _, _, .lst h r => .lst (e.seq h) (DpAll.same e r)
  | _, _, .tup h r => .tup (Same.sqt e h) (DpAll.same e r)
theorem DpAll.same (e : Same H H') : ∀ {vs : List V} {ds : List PyData}, DpAll K H vs ds → DpAll K H' vs ds
  | _, _, .nil => .nil
  | _, _, .cons h r => .cons (Dp.same e h) (DpAll.same e r)
end
theorem DpAll.len : ∀ {vs : List V} {ds : List PyData}, DpAll K H vs ds → vs.length = ds.length
  | _, _, .nil => rfl
  | _, _, .cons _ r => congrArg (· + 1) (DpAll.len r)
theorem DtAll.len {vs : List V} {ds : List PyData} (h : DtAll M K H vs ds) : vs.length = ds.length := DpAll.len (DtAll.dp h)
theorem DpAll.get : ∀ {vs : List V} {ds : List PyData} {i : Nat} {v : V}, DpAll K H vs ds → vs[i]? = some v → ∃ d, ds[i]? = some d ∧ Dp K H v d
  | _, _, _, _, .nil, e => by simp at e
  | _, _, 0, _, .cons h _, e => ⟨_, rfl, by cases e; exact h⟩
  | _, _, i + 1, _, .cons _ r, e => DpAll.get (i := i) r e
theorem DpAll.at : ∀ {vs : List V} {ds : List PyData} {i : Nat} {d : PyData}, DpAll K H vs ds → ds[i]? = some d → ∃ v, vs[i]? = some v ∧ Dp K H v d
  | _, _, _, _, .nil, e => by simp at e
  | _, _, 0, _, .cons h _, e => ⟨_, rfl, by cases e; exact h⟩
  | _, _, i + 1, _, .cons _ r, e => DpAll.at (i := i) r e
theorem DtAll.get : ∀ {vs : List V} {ds : List PyData} {i : Nat} {v : V}, DtAll M K H vs ds → vs[i]? = some v → ∃ d, ds[i]? = some d ∧ Dt M K H v d
  | _, _, _, _, .nil, e => by simp at e
  | _, _, 0, _, .cons h _, e => ⟨_, rfl, by cases e; exact h⟩
  | _, _, i + 1, _, .cons _ r, e => DtAll.get (i := i) r e
theorem DtAll.at : ∀ {vs : List V} {ds : List PyData} {i : Nat} {d : PyData}, DtAll M K H vs ds → ds[i]? = some d → ∃ v, vs[i]? = some v ∧ Dt M K H v d
  | _, _, _, _, .nil, e => by simp at e
  | _, _, 0, _, .cons h _, e => ⟨_, rfl, by cases e; exact h⟩
  | _, _, i + 1, _, .cons _ r, e => DtAll.at (i := i) r e
theorem DtAll.app : ∀ {vs us : List V} {ds es : List PyData}, DtAll M K H vs ds → DtAll M K H us es → DtAll M K H (vs ++ us) (ds ++ es)
  | _, _, _, _, .nil, h => h
  | _, _, _, _, .cons h r, q => .cons h (DtAll.app r q)
theorem DtAll.take : ∀ {vs : List V} {ds : List PyData} (n : Nat), DtAll M K H vs ds → DtAll M K H (vs.take n) (ds.take n)
  | _, _, 0, _ => .nil
  | _, _, _ + 1, .nil => .nil
  | _, _, n + 1, .cons h r => .cons h (DtAll.take n r)
theorem DtAll.drop : ∀ {vs : List V} {ds : List PyData} (n : Nat), DtAll M K H vs ds → DtAll M K H (vs.drop n) (ds.drop n)
  | _, _, 0, h => h
  | _, _, _ + 1, .nil => .nil
  | _, _, n + 1, .cons _ r => DtAll.drop n r
theorem DtAll.rep {v : V} {d : PyData} (h : Dt M K H v d) : ∀ n : Nat, DtAll M K H (List.replicate n v) (List.replicate n d)
  | 0 => .nil
  | n + 1 => .cons h (DtAll.rep h n)
/-- a tuple that was just laid -/
theorem Dt.laid {a : Addr} {xs : List V} {ds : List PyData} (n : ¬ M a) (h : H a = some (.tup xs)) (r : DtAll M K H xs ds) : Dt M K H (.ref a) (.tuple ds) := .tup (.inl ⟨n, .inl h⟩) r
theorem Dt.laidL {a : Addr} {xs : List V} {ds : List PyData} (n : ¬ M a) (h : H a = some (.lst xs)) (r : DtAll M K H xs ds) : Dt M K H (.ref a) (.list ds) := .lst (.inl ⟨n, .inl h⟩) r
theorem DtAll.ints : ∀ xs : List Int, DtAll M K H (xs.map V.int) (xs.map PyData.int)
  | [] => .nil
  | x :: r => .cons (.int x) (DtAll.ints r)
/-- a type's name -/
def tyN : PyData → String
  | .none => "NoneType"
  | .bool _ => "bool"
  | .int _ => "int"
  | .str _ => "str"
  | .list _ => "list"
  | .tuple _ => "tuple"
  | .dict _ => "dict"
theorem Dp.tyx : ∀ {v : V} {d : PyData}, Dp K H v d → TyX K H v (.type (tyN d))
  | _, _, .non => .base .non
  | _, _, .bl b => .base (.bl b)
  | _, _, .int i => .base (.int i)
  | _, _, .str x => .base (.str x)
  | _, _, .lst (.inl (.inl h)) _ => .base (.lst h)
  | _, _, .lst (.inl (.inr ⟨_, h⟩)) _ => .base (.frz h)
  | _, _, .lst (.inr ⟨_, _, _, h, c, _⟩) _ => .kList h c
  | _, _, .tup (.inl (.inl h)) _ => .base (.tup h)
  | _, _, .tup (.inl (.inr ⟨_, h⟩)) _ => .fTuple h
  | _, _, .tup (.inr ⟨_, _, _, h, c, _⟩) _ => .kTuple h c
end
def isTup : PyData → Bool
  | .tuple _ => true
  | _ => false
def isStr : PyData → Bool
  | .str _ => true
  | _ => false
def isBool : PyData → Bool
  | .bool _ => true
  | _ => false
def isInt : PyData → Bool
  | .bool _ | .int _ => true
  | _ => false
theorem kit_tup {K : PySem.W.Frag} (d : PyData) : PySem.W.kitOne K (.type (tyN d)) (.type "tuple") = some (isTup d) := by
  cases d <;> exact kit_ty (by kernel_rfl)
theorem kit_int {K : PySem.W.Frag} (d : PyData) : PySem.W.kitOne K (.type (tyN d)) (.type "int") = some (isInt d) := by
  cases d <;> exact kit_ty (by kernel_rfl)
theorem kit_bool {K : PySem.W.Frag} (d : PyData) : PySem.W.kitOne K (.type (tyN d)) (.type "bool") = some (isBool d) := by
  cases d <;> exact kit_ty (by kernel_rfl)
theorem kit_str {K : PySem.W.Frag} (d : PyData) : PySem.W.kitOne K (.type (tyN d)) (.type "str") = some (isStr d) := by
  cases d <;> exact kit_ty (by kernel_rfl)
end L2

namespace L2
open PySem PySem.Spec PyProof.Rows
/-! ### repr of data: the law's own def runs where nothing is being shown -/
section
variable {P : Program} {w : World} {K : PySem.W.Frag} {mg : Str → Option Value} {base : Heap}
/-- the call of a def, at one place -/
theorem Fun.runAt {x qual : Str} {st : Stmt} {f : Addr} {fd : FuncData} {N ps : List Str} {k : Nat} (F : Fun K x qual st f fd) (S : FnScope N ps (defScope st))
    {A : Around} {outer : List Env} {s : Shared} {H : Hp} {args : Args} {us : List Value} {vs : List V} {Q : VK} {E : XK} (room : Room (k + 1) A) (en : Env0 P w K mg base A outer s H)
    (bi : BindsTo s fd args (ps.zip us)) (rel : Vals vs us) (many : vs.length = ps.length)
    (walk : ∀ cdv : Value, Room k (A.deeper (envOfC qual (defScope st) s.heap.objs.size f cdv)) →
      ∃ t, PSs (cxOf CX0 P w K mg base N qual (defScope st) f cdv A outer s H E).nox (defBody st) t ∧ t { nx := fun _ h => Q .non h, rt := Q } (start N vs) H) :
    codeAny (model P w) A (.call (.ref f) args) (CR CX0 outer P w H s Q E) s := by
  obtain ⟨oc, od, kV, doc, pm, an, cdv, ct, osl, rfl, look, rec⟩ := F.ex
  have inK : K.In s.heap := en.mod.kin.keeps fun c u z => (en.bs c u z).1
  have free : s.heap.NoLimit := en.mod.nolimit.keeps fun c u z => (en.bs c u z).1
  refine codeAny_call_function room.depth (inK _ _ look) rfl S.co S.gen rfl (PySem.W.codeRec_of inK rec) (bi _ _ _ _ ?_)
  refine wpAny_newFunctionEnv_cells S.kind (fun ⟨n, v⟩ hy => (S.par n (List.of_mem_zip hy).1).elim .inl fun q => .inr ⟨q, PySem.W.cellsFrom_some _ _ _ (.inl q)⟩) fun env he s1 born => ?_
  subst he
  refine ⟨free.keeps born.toInCall.keep, codeAny_func ?_⟩
  obtain ⟨t, good, go⟩ := walk cdv (room.deeper _)
  refine wpAny_mono (good.nox.run [] s1 (start N vs) H _ (inv_start S room.hd en many rel born) go) (fun fl s2 hs => ?_) fun _ _ hs => hs
  match fl, hs with
  | .ret u, ⟨v, σ2, H2, J, rv, q⟩ => exact ⟨v, H2, J.os, J.bare, J.base, J.hok, rv, q⟩
  | .next, ⟨σ2, H2, J, q⟩ => exact ⟨V.non, H2, J.os, J.bare, J.base, J.hok, rfl, q⟩
  | .brk, ⟨_, _, _, q⟩ => exact False.elim q
  | .cont, ⟨_, _, _, q⟩ => exact False.elim q
end
end L2
namespace L2
open PySem PySem.Spec PyProof.Rows
section
variable {X : Cx}
/-- repr(x) of a list of data, where nothing is being shown -/
def rRepr (K : PySem.W.Frag) : List V → Hp → VK → Prop := fun xs H Q => ∃ (a : Addr) (d : PyData), xs = [.ref a] ∧ Dp K H (.ref a) d ∧ d.showable = true ∧ d.hasDict = false ∧ d.depth ≤ 60 ∧ d.shown.length ≤ sizeLine ∧ Q (.str d.shown) H
theorem call_reprD (quiet : X.A.guards = some []) (room : X.A.units + 64 < cLine) : CallR X (.builtin "repr") (rRepr X.K) := by
  intro pins s σ H xs us Q I r h
  obtain ⟨a, d, rfl, hd, h1, h2, h3, h4, q⟩ := h
  obtain ⟨u, rfl, hu⟩ := vals1 r
  obtain ⟨as, rd⟩ := Dp.reads I d (.ref a) u hd hu
  cases hu
  exact repr_of_reads' rd h1 (PySem.PyData.noDict_hsm h2) quiet (by omega) (fun _ _ e => e) (fun h' t tk hk => ⟨.str _, H, I.kept hk, ⟨_, rfl⟩, q⟩) h4
end
/-! ### how long such a text is -/
theorem textFrom_le : ∀ (ts : List Str) (k : Nat) (acc : Str), (textFrom k acc ts).length ≤ acc.length + (ts.map fun t => t.length + 2).sum
  | [], k, acc => Nat.le_refl _
  | t :: r, k, acc => by
    have a := textFrom_le r (k + 1) (acc ++ (if k > 0 then ", " else "" : String) ++ t)
    have e : (acc ++ (if k > 0 then ", " else "" : String) ++ t).length ≤ acc.length + 2 + t.length := by
      rw [strLen_append, strLen_append]
      have : (Str.ofString (if k > 0 then ", " else "" : String)).length ≤ 2 := by split <;> decide
      omega
    show (textFrom (k + 1) (acc ++ (if k > 0 then ", " else "" : String) ++ t) r).length ≤ _
    rw [List.map_cons, List.sum_cons]
    omega
theorem listText_le (ts : List Str) : (listText ts).length ≤ 2 + (ts.map fun t => t.length + 2).sum := by
  unfold listText
  rw [strLen_append]
  have a := textFrom_le ts 0 "["
  have b : (Str.ofString "[").length = 1 := rfl
  have c : (Str.ofString "]").length = 1 := rfl
  omega
def Small (x : Int) : Prop := x.natAbs < 1000
theorem small_text {x : Int} (h : Small x) : (PyData.int x).shown.length ≤ 4 ∧ (PyData.int x).showable = true := by
  refine ⟨?_, ?_⟩
  · have a : (toString x).length ≤ 3 + 1 := int_text_length_le10 (by decide) h
    simp only [PyData.shown]
    rw [PySem.ofString_length]
    exact a
  · simp only [PyData.showable]
    refine decide_eq_true ?_
    by_cases z : x.natAbs = 0
    · rw [z]; decide
    · exact Nat.lt_of_lt_of_le ((Nat.log2_lt z).mpr (Nat.lt_trans h (by decide : 1000 < 2 ^ 10))) (by decide)
theorem sum_le {l : List Nat} {m : Nat} (h : ∀ x ∈ l, x ≤ m) : l.sum ≤ m * l.length := by
  induction l with
  | nil => exact Nat.zero_le _
  | cons x r ih =>
    have a := h x (.head _)
    have b := ih fun y hy => h y (.tail _ hy)
    rw [List.sum_cons, List.length_cons, Nat.mul_succ]
    omega
/-- what repr asks of a list -/
structure Shows (d : PyData) : Prop where
  able : d.showable = true
  dict : d.hasDict = false
  deep : d.depth ≤ 60
  size : d.shown.length ≤ sizeLine
theorem shows_ints {xs : List Int} (h : ∀ x ∈ xs, Small x) (hl : xs.length ≤ 1000) : Shows (.list (xs.map PyData.int)) ∧ (PyData.list (xs.map PyData.int)).shown.length ≤ 2 + 6 * xs.length ∧ (PyData.list (xs.map PyData.int)).depth = 1 := by
  have e1 : ∀ ys : List Int, (∀ x ∈ ys, Small x) → PyData.showableAll (ys.map PyData.int) = true ∧ PyData.hasDictAll (ys.map PyData.int) = false ∧ PyData.depthAll (ys.map PyData.int) = 0 ∧ (∀ n ∈ (PyData.shownAll (ys.map PyData.int)).map (fun t => t.length + 2), n ≤ 6) ∧ ((PyData.shownAll (ys.map PyData.int)).map (fun t => t.length + 2)).length = ys.length := by
    intro ys
    induction ys with
    | nil => intro _; exact ⟨rfl, rfl, rfl, fun _ h => (by cases h), rfl⟩
    | cons y r ih =>
      intro hy
      obtain ⟨a1, a2, a3, a4, a5⟩ := ih fun x m => hy x (.tail _ m)
      obtain ⟨b1, b2⟩ := small_text (hy y (.head _))
      refine ⟨?_, ?_, ?_, fun n hn => ?_, ?_⟩
      · rw [List.map_cons, PyData.showableAll, b2, a1]; rfl
      · rw [List.map_cons, PyData.hasDictAll, a2]; simp only [PyData.hasDict, Bool.or_self]
      · rw [List.map_cons]; simp only [PyData.depthAll, PyData.depth, a3, Nat.max_self]
      · rw [List.map_cons, PyData.shownAll, List.map_cons] at hn
        rcases List.mem_cons.mp hn with rfl | hn
        · omega
        · exact a4 n hn
      · rw [List.map_cons, PyData.shownAll, List.map_cons, List.length_cons, a5, List.length_cons]
  obtain ⟨a1, a2, a3, a4, a5⟩ := e1 xs h
  have sz : (PyData.list (xs.map PyData.int)).shown.length ≤ 2 + 6 * xs.length := by
    have b := listText_le (PyData.shownAll (xs.map PyData.int))
    have c := sum_le a4
    rw [a5] at c
    simp only [PyData.shown]
    omega
  have dp : (PyData.list (xs.map PyData.int)).depth = 1 := by simp only [PyData.depth, a3]
  refine ⟨⟨by simp only [PyData.showable]; exact a1, by simp only [PyData.hasDict]; exact a2, by rw [dp]; decide, ?_⟩, sz, dp⟩
  refine Nat.le_trans sz (Nat.le_trans (?_ : 2 + 6 * xs.length ≤ 10000) (by rw [sizeLine_eq]; decide))
  omega
theorem shows_rows {xss : List (List Int)} (h : ∀ xs ∈ xss, xs.length ≤ 100 ∧ ∀ x ∈ xs, Small x) (hl : xss.length ≤ 100) : Shows (.list (xss.map fun xs => .list (xs.map PyData.int))) ∧ (PyData.list (xss.map fun xs => .list (xs.map PyData.int))).shown.length ≤ 100000 ∧ (PyData.list (xss.map fun xs => .list (xs.map PyData.int))).depth ≤ 5 := by
  have e1 : ∀ yss : List (List Int), (∀ xs ∈ yss, xs.length ≤ 100 ∧ ∀ x ∈ xs, Small x) → PyData.showableAll (yss.map fun xs => .list (xs.map PyData.int)) = true ∧ PyData.hasDictAll (yss.map fun xs => .list (xs.map PyData.int)) = false ∧ PyData.depthAll (yss.map fun xs => .list (xs.map PyData.int)) ≤ 1 ∧
      (∀ n ∈ (PyData.shownAll (yss.map fun xs => .list (xs.map PyData.int))).map (fun t => t.length + 2), n ≤ 604) ∧ ((PyData.shownAll (yss.map fun xs => .list (xs.map PyData.int))).map (fun t => t.length + 2)).length = yss.length := by
    intro yss
    induction yss with
    | nil => intro _; exact ⟨rfl, rfl, Nat.zero_le _, fun _ h => (by cases h), rfl⟩
    | cons y r ih =>
      intro hy
      obtain ⟨a1, a2, a3, a4, a5⟩ := ih fun x m => hy x (.tail _ m)
      obtain ⟨c1, c2⟩ := hy y (.head _)
      obtain ⟨b1, b2, b3⟩ := shows_ints c2 (by omega)
      refine ⟨?_, ?_, ?_, fun n hn => ?_, ?_⟩
      · rw [List.map_cons, PyData.showableAll, b1.able, a1]; rfl
      · rw [List.map_cons, PyData.hasDictAll, b1.dict, a2]; rfl
      · rw [List.map_cons, PyData.depthAll, b3]; omega
      · rw [List.map_cons, PyData.shownAll, List.map_cons] at hn
        rcases List.mem_cons.mp hn with rfl | hn
        · omega
        · exact a4 n hn
      · rw [List.map_cons, PyData.shownAll, List.map_cons, List.length_cons, a5, List.length_cons]
  obtain ⟨a1, a2, a3, a4, a5⟩ := e1 xss h
  have b := listText_le (PyData.shownAll (xss.map fun xs => .list (xs.map PyData.int)))
  have c := sum_le a4
  rw [a5] at c
  have sz : (PyData.list (xss.map fun xs => .list (xs.map PyData.int))).shown.length ≤ 100000 := by
    simp only [PyData.shown]
    omega
  have dp : (PyData.list (xss.map fun xs => .list (xs.map PyData.int))).depth ≤ 5 := by simp only [PyData.depth]; omega
  exact ⟨⟨by simp only [PyData.showable]; exact a1, by simp only [PyData.hasDict]; exact a2, by omega, Nat.le_trans sz (by rw [sizeLine_eq]; decide)⟩, sz, dp⟩
end L2
namespace L2
open PySem PySem.Spec PyProof.Rows
/-! ### the law's call, at the place where it is made -/
/-- what is asked of the law's def: its call from without, over any base -/
def LawRun (P : Program) (w : World) (K : PySem.W.Frag) (mg : Str → Option Value) (f : Addr) (fd : FuncData) (x : Str) (n : Nat) : Prop :=
  ∀ (base : Heap) (s : Shared) (H : Hp) (a : Addr) (ns : List Int) (Q : VK) (E : XK), K.In base → base.Ns mainGlobals mg → Env0 P w K mg base callerA [] s H → BindsTo s fd ⟨[.ref a], []⟩ [(x, .ref a)] → ns.length ≤ n → SqL K H a (ns.map V.int) →
    (∀ H', Q (.bl true) H') → codeAny (model P w) callerA (.call (.ref f) ⟨[.ref a], []⟩) (CR CX0 [] P w H s Q E) s
theorem LawRun.call {P : Program} {w : World} {K : PySem.W.Frag} {mg mb : Str → Option Value} {fa a : Addr} {fd : FuncData} {x : Str} {n : Nat} {s₁ : Shared} {vs : List Value} {ns : List Int} (R : LawRun P w K mg fa fd x n)
    (inK : K.In s₁.heap) (hm : s₁.heap.Ns mainGlobals mg) (hb : s₁.heap.Ns builtinsNs mb) (boot : ∀ y : Str, y ≠ "__name__" → mb y = bootBuiltins y) (lim : s₁.heap.NoLimit) (quiet : s₁.gens = #[])
    (obj : s₁.heap.get? a = some { cls := .type "list", data := .seq vs.toArray }) (isI : IntsAre vs ns) (hn : ns.length ≤ n) (hz : n ≤ sizeLine) (bi : ∀ (s : Shared) (u : Value), BindsTo s fd ⟨[u], []⟩ [(x, u)]) :
    codeAny (model P w) callerA (.call (.ref fa) ⟨[.ref a], []⟩) (fun r s' => r = .ok (.ret (.bool true)) ∧ OldK s₁.heap s'.heap ∧ s'.os = s₁.os ∧ AllBare s'.gens) s₁ := by
  have rel := vals_ints isI
  have len := isI.length
  -- H: the script alone, or nothing
  have main : ∀ H : Hp, (∀ b, H b = none ∨ (b = a ∧ H b = some (.frz { cls := .type "list", data := .seq vs.toArray } (.lst (ns.map V.int))) ∧ K.lookup a = none)) → SqL K H a (ns.map V.int) →
      codeAny (model P w) callerA (.call (.ref fa) ⟨[.ref a], []⟩) (fun r s' => r = .ok (.ret (.bool true)) ∧ OldK s₁.heap s'.heap ∧ s'.os = s₁.os ∧ AllBare s'.gens) s₁ := by
    intro H only sq
    have ok : HOk P w H s₁.heap := fun b u z => by
      rcases only b with y | ⟨rfl, y, _⟩
      · rw [y] at z; cases z
      · rw [y] at z
        cases z
        exact ⟨obj, by rw [List.length_map]; omega, vs, _, rel, obj⟩
    have nsOf : ∀ {b : Addr} {m : Str → Option Value}, s₁.heap.Ns b m → (hidT s₁.heap H).Ns b m := by
      rintro b m ⟨o, es, ep, g, d, r⟩
      refine ⟨o, es, ep, hidT_get g ?_, d, r⟩
      rcases only b with y | ⟨rfl, _, _⟩
      · exact y
      · rw [obj] at g
        cases g
        cases d
    have inB : K.In (hidT s₁.heap H) := fun b o g => hidT_get (inK b o g) (by
      rcases only b with y | ⟨rfl, _, y⟩
      · exact y
      · rw [y] at g; cases g)
    have md : Mod K mg (hidT s₁.heap H) := by
      obtain ⟨mc, c1, c2⟩ := lim
      exact ⟨inB, nsOf hm, ⟨mb, nsOf hb, boot⟩, mc, nsOf c1, c2⟩
    have en : Env0 P w K mg (hidT s₁.heap H) callerA [] s₁ H := by
      refine ⟨rfl, md, fun b o g => of_hidT g, Nat.le_of_eq (hidT_size _ _), trivial, fun b m => ?_, ok, .of_eq quiet⟩
      cases m
    refine codeAny_mono (R _ s₁ H a ns (fun v _ => v = .bl true) (fun _ _ _ => False) inB (nsOf hm) en (bi s₁ (.ref a)) hn sq fun _ => rfl) fun r s2 z => ?_
    match r, z with
    | .ok (.ret u), ⟨v, H2, os, bare, un, ok2, ru, q⟩ =>
      have q' : v = .bl true := q
      subst q'
      obtain rfl : u = Value.bool true := ru
      refine ⟨rfl, OldK.of_keep fun b o g => ?_, os, bare⟩
      rcases only b with y | ⟨rfl, y, _⟩
      · refine un.keep b o g y (fun m => ?_) (fun m => ?_) <;> cases m
      · obtain ⟨e1, _⟩ := ok b _ y
        obtain ⟨e2, _⟩ := ok2 b _ (un.frzs b _ _ y)
        rw [g] at e1
        cases e1
        exact e2
    | .ok .next, z => exact False.elim z
    | .ok .brk, z => exact False.elim z
    | .ok .cont, z => exact False.elim z
    | .error e, z => exact False.elim z
  by_cases hk : ∃ o, K.lookup a = some o
  · obtain ⟨o, hk⟩ := hk
    have g := inK a o hk
    rw [obj] at g
    cases g
    exact main (fun _ => none) (fun _ => .inl rfl) (.inr ⟨_, vs.toArray, _, hk, rfl, rfl, rfl, by rw [List.size_toArray, len]; omega, by simpa using rel⟩)
  · have hk' : K.lookup a = none := by
      cases z : K.lookup a with
      | none => rfl
      | some o => exact absurd ⟨o, z⟩ hk
    refine main (fun b => if b = a then some (.frz { cls := .type "list", data := .seq vs.toArray } (.lst (ns.map V.int))) else none) (fun b => ?_) (.inl (.inr ⟨_, if_pos rfl⟩))
    by_cases e : b = a
    · exact .inr ⟨e, if_pos e, hk'⟩
    · exact .inl (if_neg e)
/-- the end of a proof whose law runs at its own place -/
theorem walk_at_place {l : PySem.W.OpenLaw} {n : Nat} {q : Program} {loose : List Str} {XP : (Str → Option Value) → Heap → Prop} {YP : World → Heap → Prop} {d : DefRec} {K : Params → PySem.W.Frag} {x : Str}
    (hn : l.most = some n) (hz : n ≤ sizeLine) (hdf : d.params.defaults = []) (hY : ∀ (w : World) (h : Heap), YP w h → (K w.params).In h)
    (F : ∀ (w : World) (mg : Str → Option Value) (fa : Addr) (h : Heap), (K w.params).In h → h.Ns mainGlobals mg → mg d.name = some (.ref fa) → ∃ fd : FuncData, (∀ (s : Shared) (u : Value), BindsTo s fd ⟨[u], []⟩ [(x, u)]) ∧ LawRun l.prog w (K w.params) mg fa fd x n) :
    PySem.W.WalkO q loose XP YP l.row.toRowW d [] (fun f vs => PySem.call f vs) := by
  refine Att.attach_call hn hdf fun w s₀ s₁ mg mb fa o pm cd doc a vs ns G Y ho hd hcd hmg hobj hints hlen hg => ?_
  have KX := hY w _ Y
  obtain ⟨fd, bi, R⟩ := F w mg fa _ KX G.T.g hmg
  exact LawRun.call R KX G.T.g G.T.b G.T.builtins G.T.nolimit hg hobj hints hlen hz bi
end L2
set_option maxHeartbeats 400000
namespace D7
open PySem PySem.Spec PyProof.Rows L2
/-! ### the text -/
def topS (i : Nat) : Stmt := PySem.Challenge.pw_drawloom_k22_ways_of_graphs.main.body.getD i (.Pass ⟨0, 0, 0, 0⟩)
abbrev s_targets : Stmt := topS 1
theorem sc_targets : FnScope ["end"] ["end"] (defScope s_targets) := ⟨rfl, rfl, rfl, by decide +kernel, rfl, by decide +kernel, by decide +kernel⟩
abbrev s_leads_to : Stmt := topS 3
theorem sc_leads_to : FnScope ["graph", "_", "end"] ["graph"] (defScope s_leads_to) := ⟨rfl, rfl, rfl, by decide +kernel, rfl, by decide +kernel, by decide +kernel⟩
abbrev s_comes_from : Stmt := topS 4
theorem sc_comes_from : FnScope ["graph", "found", "node", "ways", "target", "_"] ["graph"] (defScope s_comes_from) := ⟨rfl, rfl, rfl, by decide +kernel, rfl, by decide +kernel, by decide +kernel⟩
abbrev s_law_stream : Stmt := topS 6
theorem sc_law_stream : FnScope ["script", "mixed", "cell"] ["script"] (defScope s_law_stream) := ⟨rfl, rfl, rfl, by decide +kernel, rfl, by decide +kernel, by decide +kernel⟩
abbrev s_law_draw : Stmt := topS 7
theorem sc_law_draw : FnScope ["stream", "many", "value"] ["stream", "many"] (defScope s_law_draw) := ⟨rfl, rfl, rfl, by decide +kernel, rfl, by decide +kernel, by decide +kernel⟩
abbrev s_law_word : Stmt := topS 8
theorem sc_law_word : FnScope ["stream"] ["stream"] (defScope s_law_word) := ⟨rfl, rfl, rfl, by decide +kernel, rfl, by decide +kernel, by decide +kernel⟩
abbrev s_law_frame : Stmt := topS 9
theorem sc_law_frame : FnScope ["stream", "rows", "shared", "k"] ["stream"] (defScope s_law_frame) := ⟨rfl, rfl, rfl, by decide +kernel, rfl, by decide +kernel, by decide +kernel⟩
abbrev s_law_kinds : Stmt := topS 10
theorem sc_law_kinds : FnScope ["frame", "kind", "found", "k"] ["frame", "kind"] (defScope s_law_kinds) := ⟨rfl, rfl, rfl, by decide +kernel, rfl, by decide +kernel, by decide +kernel⟩
abbrev s_law_instruction : Stmt := topS 11
theorem sc_law_instruction : FnScope ["stream", "many", "frame", "waits", "pick", "d", "r", "s", "fold", "ints", "arrays", "names", "array"] ["stream", "many", "frame", "waits"] (defScope s_law_instruction) := ⟨rfl, rfl, rfl, by decide +kernel, rfl, by decide +kernel, by decide +kernel⟩
abbrev s_law_ends : Stmt := topS 12
theorem sc_law_ends : FnScope ["stream", "count", "many", "k", "rows", "node", "free", "found", "more", "r"] ["stream", "count", "many"] (defScope s_law_ends) := ⟨rfl, rfl, rfl, by decide +kernel, rfl, by decide +kernel, by decide +kernel⟩
abbrev s_law_flow : Stmt := topS 13
theorem sc_law_flow : FnScope ["stream", "most", "waits", "many", "frame", "count", "ends", "nodes", "k", "rows", "j"] ["stream", "most", "waits"] (defScope s_law_flow) := ⟨rfl, rfl, rfl, by decide +kernel, rfl, by decide +kernel, by decide +kernel⟩
abbrev s_law_leads : Stmt := topS 14
theorem sc_law_leads : FnScope ["nodes", "found", "node", "end"] ["nodes"] (defScope s_law_leads) := ⟨rfl, rfl, rfl, by decide +kernel, rfl, by decide +kernel, by decide +kernel⟩
abbrev s_law_comes : Stmt := topS 15
theorem sc_law_comes : FnScope ["nodes", "rows", "b", "a"] ["nodes"] (defScope s_law_comes) := ⟨rfl, rfl, rfl, by decide +kernel, rfl, by decide +kernel, by decide +kernel⟩
abbrev s_law : Stmt := topS 16
theorem sc_law : FnScope ["script", "stream", "graph", "due", "first", "k", "rows", "j", "row"] ["script"] (defScope s_law) := ⟨rfl, rfl, rfl, by decide +kernel, rfl, by decide +kernel, by decide +kernel⟩
theorem pe_gq {X : Cx} {x : Str} {v : V} {pos : Pos} (hg : Gl X x) (h : ∃ u, X.mg x = some u ∧ RelV v u) (hd : (x == ("__debug__" : Str)) = false := by decide) : PE X (.Name x pos) (tC v) := by
  obtain ⟨u, hm, r⟩ := h
  exact pe_glob hg hm r hd
structure Tx (w : World) (K : PySem.W.Frag) (mg : Str → Option Value) where
  a_targets : Addr
  d_targets : FuncData
  F_targets : Fun K "targets" "targets" s_targets a_targets d_targets
  b_targets : Binds K d_targets ["end"] []
  g_targets : mg "targets" = some (.ref a_targets)
  a_leads_to : Addr
  d_leads_to : FuncData
  F_leads_to : Fun K "leads_to" "leads_to" s_leads_to a_leads_to d_leads_to
  b_leads_to : Binds K d_leads_to ["graph"] []
  g_leads_to : mg "leads_to" = some (.ref a_leads_to)
  a_comes_from : Addr
  d_comes_from : FuncData
  F_comes_from : Fun K "comes_from" "comes_from" s_comes_from a_comes_from d_comes_from
  b_comes_from : Binds K d_comes_from ["graph"] []
  g_comes_from : mg "comes_from" = some (.ref a_comes_from)
  a_law_stream : Addr
  d_law_stream : FuncData
  F_law_stream : Fun K "_law_stream" "_law_stream" s_law_stream a_law_stream d_law_stream
  b_law_stream : Binds K d_law_stream ["script"] []
  g_law_stream : mg "_law_stream" = some (.ref a_law_stream)
  a_law_draw : Addr
  d_law_draw : FuncData
  F_law_draw : Fun K "_law_draw" "_law_draw" s_law_draw a_law_draw d_law_draw
  b_law_draw : Binds K d_law_draw ["stream", "many"] []
  g_law_draw : mg "_law_draw" = some (.ref a_law_draw)
  a_law_word : Addr
  d_law_word : FuncData
  F_law_word : Fun K "_law_word" "_law_word" s_law_word a_law_word d_law_word
  b_law_word : Binds K d_law_word ["stream"] []
  g_law_word : mg "_law_word" = some (.ref a_law_word)
  a_law_frame : Addr
  d_law_frame : FuncData
  F_law_frame : Fun K "_law_frame" "_law_frame" s_law_frame a_law_frame d_law_frame
  b_law_frame : Binds K d_law_frame ["stream"] []
  g_law_frame : mg "_law_frame" = some (.ref a_law_frame)
  a_law_kinds : Addr
  d_law_kinds : FuncData
  F_law_kinds : Fun K "_law_kinds" "_law_kinds" s_law_kinds a_law_kinds d_law_kinds
  b_law_kinds : Binds K d_law_kinds ["frame", "kind"] []
  g_law_kinds : mg "_law_kinds" = some (.ref a_law_kinds)
  a_law_instruction : Addr
  d_law_instruction : FuncData
  F_law_instruction : Fun K "_law_instruction" "_law_instruction" s_law_instruction a_law_instruction d_law_instruction
  b_law_instruction : Binds K d_law_instruction ["stream", "many", "frame", "waits"] []
  g_law_instruction : mg "_law_instruction" = some (.ref a_law_instruction)
  a_law_ends : Addr
  d_law_ends : FuncData
  F_law_ends : Fun K "_law_ends" "_law_ends" s_law_ends a_law_ends d_law_ends
  b_law_ends : Binds K d_law_ends ["stream", "count", "many"] []
  g_law_ends : mg "_law_ends" = some (.ref a_law_ends)
  a_law_flow : Addr
  d_law_flow : FuncData
  F_law_flow : Fun K "_law_flow" "_law_flow" s_law_flow a_law_flow d_law_flow
  b_law_flow : Binds K d_law_flow ["stream", "most", "waits"] []
  g_law_flow : mg "_law_flow" = some (.ref a_law_flow)
  a_law_leads : Addr
  d_law_leads : FuncData
  F_law_leads : Fun K "_law_leads" "_law_leads" s_law_leads a_law_leads d_law_leads
  b_law_leads : Binds K d_law_leads ["nodes"] []
  g_law_leads : mg "_law_leads" = some (.ref a_law_leads)
  a_law_comes : Addr
  d_law_comes : FuncData
  F_law_comes : Fun K "_law_comes" "_law_comes" s_law_comes a_law_comes d_law_comes
  b_law_comes : Binds K d_law_comes ["nodes"] []
  g_law_comes : mg "_law_comes" = some (.ref a_law_comes)
  a_law : Addr
  d_law : FuncData
  F_law : Fun K "law" "law" s_law a_law d_law
  g_law : mg "law" = some (.ref a_law)
  z_abs : mg "abs" = none
  z_enumerate : mg "enumerate" = none
  z_int : mg "int" = none
  z_isinstance : mg "isinstance" = none
  z_len : mg "len" = none
  z_list : mg "list" = none
  z_max : mg "max" = none
  z_range : mg "range" = none
  z_repr : mg "repr" = none
  z_tuple : mg "tuple" = none
def rLenS (K : PySem.W.Frag) : List V → Hp → VK → Prop := fun us H Q => ∃ a ys, us = [.ref a] ∧ (SqL K H a ys ∨ SqT K H a ys) ∧ Q (.int ys.length) H
def rListOf (K : PySem.W.Frag) : List V → Hp → VK → Prop := fun us H Q => ∃ a ys, us = [.ref a] ∧ (SqL K H a ys ∨ SqT K H a ys) ∧ ∀ b, H b = none → Q (.ref b) (upd H b (.lst ys))
def rTupOf (K : PySem.W.Frag) : List V → Hp → VK → Prop := fun us H Q => ∃ a ys, us = [.ref a] ∧ ((SqL K H a ys ∧ ∀ b, H b = none → Q (.ref b) (upd H b (.tup ys))) ∨ (SqT K H a ys ∧ Q (.ref a) H))
theorem same_new5 {H : Hp} {p : Addr} {o : HO} (h : H p = none) : Same H (upd H p o) := fun b x e => by
  rw [upd_ne (ne_of_none e h)]
  exact e
section
variable {P : Program} {w : World} {K : PySem.W.Frag} {mg : Str → Option Value} {base : Heap}

/-! ### the law's stream of draws -/
/-- at p: a stream; which numbers it gives is left open -/
def Strm (q : Addr) (H : Hp) (p : Addr) : Prop := ∃ (cur pos mixed : Int) (ns : List Int), H p = some (.lst [.ref q, .int cur, .int pos, .int mixed]) ∧ H q = some (.lst (ns.map V.int)) ∧
  0 ≤ cur ∧ 0 ≤ pos ∧ pos ≤ ns.length ∧ ns.length ≤ 63 ∧ 0 ≤ mixed ∧ mixed < 2147483647
def But (p : Addr) (H H' : Hp) : Prop := ∀ b o, b ≠ p → H b = some o → H' b = some o
theorem But.refl {p : Addr} {H : Hp} : But p H H := fun _ _ _ h => h
theorem But.trans {p : Addr} {H H1 H2 : Hp} (a : But p H H1) (b : But p H1 H2) : But p H H2 := fun c o n h => b c o n (a c o n h)
theorem But.same {p : Addr} {H H1 H2 : Hp} (a : But p H H1) (b : Same H1 H2) : But p H H2 := fun c o n h => b c o (a c o n h)
theorem But.upd {p : Addr} {H H1 : Hp} {o : HO} (a : But p H H1) : But p H (L2.upd H1 p o) := fun c u n h => by rw [upd_ne n]; exact a c u n h
theorem same_new {H : Hp} {p : Addr} {o : HO} (h : H p = none) : Same H (upd H p o) := fun b x e => by
  rw [upd_ne (ne_of_none e h)]
  exact e
theorem Strm.same {q : Addr} {H H' : Hp} {p : Addr} (s : Strm q H p) (h : Same H H') : Strm q H' p := by
  obtain ⟨cur, pos, mixed, ns, e1, e2, r⟩ := s
  exact ⟨cur, pos, mixed, ns, h _ _ e1, h _ _ e2, r⟩
theorem Strm.upd {q : Addr} {H : Hp} {p D : Addr} {o : HO} (s : Strm q H p) (np : D ≠ p) (nq : D ≠ q) : Strm q (upd H D o) p := by
  obtain ⟨cur, pos, mixed, ns, e1, e2, r⟩ := s
  exact ⟨cur, pos, mixed, ns, by rw [upd_ne np.symm]; exact e1, by rw [upd_ne nq.symm]; exact e2, r⟩
theorem Strm.nep {q : Addr} {H : Hp} {p D : Addr} (s : Strm q H p) (h : H D = none) : D ≠ p := fun e => by
  obtain ⟨cur, pos, mixed, ns, e1, _⟩ := s
  rw [e, e1] at h
  cases h
theorem Strm.neq {q : Addr} {H : Hp} {p D : Addr} (s : Strm q H p) (h : H D = none) : D ≠ q := fun e => by
  obtain ⟨cur, pos, mixed, ns, _, e2, _⟩ := s
  rw [e, e2] at h
  cases h
theorem Strm.pq {q : Addr} {H : Hp} {p : Addr} (s : Strm q H p) : q ≠ p := fun z => by
  obtain ⟨cur, pos, mixed, ns, e1, e2, _⟩ := s
  rw [z, e1] at e2
  cases ns with
  | nil => cases e2
  | cons x r => cases e2
def sp_law_stream (K : PySem.W.Frag) : Sp := fun vs H Q _ => ∃ (a : Addr) (ns : List Int), vs = [.ref a] ∧ SqL K H a (ns.map V.int) ∧ ns.length ≤ 63 ∧ ∀ H' p q, Same H H' → H p = none → H q = none → Strm q H' p → Q (.ref p) H'
def sp_law_draw : Sp := fun vs H Q _ => ∃ (p q : Addr) (many : Int), vs = [.ref p, .int many] ∧ Strm q H p ∧ 0 < many ∧ many < 2 ^ 100 ∧ ∀ (v : Int) H', 0 ≤ v → v < many → But p H H' → Strm q H' p → Q (.int v) H'
theorem ok_law_stream (T : Tx w K mg) : FnOk P w K mg base CX0 1 T.a_law_stream T.d_law_stream ["script"] (sp_law_stream K) := by
  refine T.F_law_stream.ok sc_law_stream (fun vs H Q E h => ?_) (fun cdv A outer s H vs Q E hr h => ?_)
  · obtain ⟨a, ns, rfl, _⟩ := h
    rfl
  · obtain ⟨a, ns, rfl, hS, hlen, q⟩ := h
    refine ⟨_, (pss_cons (ps_set (i := 1) sc_law_stream.nd rfl (.inl rfl) pe_int)
      (pss_cons (ps_for PassesOwn.never rfl (pi_list (pv 0)) (pg_name (i := 2) sc_law_stream.nd rfl (.inl rfl)) (pss_one (ps_set (i := 1) sc_law_stream.nd rfl (.inl rfl) (pe_op op_mod (pe_callTy call_int1 (by rfl) T.z_int (by decide +kernel) (pa_cons (pe_op op_add (pe_op op_add (pe_op op_mul (pv 1) pe_int) (pe_op op_mod (pe_callTy call_int1 (by rfl) T.z_int (by decide +kernel) (pa_cons (pv 2) pa_nil)) pe_int)) pe_int) pa_nil)) pe_int))))
      (pss_one (ps_ret (pe_lst (pa_cons (pe_callTy call_list_of (by rfl) T.z_list (by decide +kernel) (pa_cons (pv 0) pa_nil)) (pa_cons pe_int (pa_cons pe_int (pa_cons (pv 1) pa_nil))))))))), ?_⟩
    refine ⟨_, rfl, a, rfl, ⟨_, hS⟩, for_list (K := K) (a := a) (xs := ns.map V.int) (fun i σ H' => ∃ (m : Int) (c : Option V), σ = [some (.ref a), some (.int m), c] ∧ 0 ≤ m ∧ m < 2147483647 ∧ H' = H) ⟨17, none, rfl, by decide, by decide, rfl⟩ (fun i σ H' _ ⟨_, _, _, _, _, e⟩ => by rw [e]; exact hS) ?_ ?_⟩
    · rintro i x σ H' hx ⟨m, c, rfl, h0, h1, rfl⟩
      obtain ⟨n, rfl⟩ : ∃ n, x = V.int n := by
        rw [List.getElem?_map] at hx
        cases e : ns[i]? with
        | none => rw [e] at hx; cases hx
        | some u => rw [e] at hx; exact ⟨u, (Option.some.inj hx).symm⟩
      refine ⟨_, rfl, _, _, rfl, rfl, .inl ⟨by omega, by omega⟩, _, rfl, .inl ⟨_, rfl, _, _, rfl, rfl, (by show (0 : Int) < 65521; decide), _, _, rfl, rfl, _, _, rfl, rfl, .inl ⟨_, rfl, _, _, rfl, rfl, (by show (0 : Int) < 2147483647; decide), ?_⟩⟩⟩
      exact ⟨_, _, rfl, Int.emod_nonneg _ (by decide), Int.emod_lt_of_pos _ (by decide), rfl⟩
    · rintro σ H' ⟨m, c, rfl, h0, h1, rfl⟩
      refine ⟨_, rfl, a, _, rfl, .inl hS, fun l nl => ⟨_, rfl, (by show 4 ≤ sizeLine; decide), fun p np => ?_⟩⟩
      have npl : p ≠ l := fun e => by rw [e, upd_same] at np; cases np
      have np0 : H' p = none := by rw [upd_ne npl] at np; exact np
      refine q _ p l ((same_new nl).trans (same_new np)) np0 nl ⟨0, 0, m, ns, upd_same, ?_, by decide, by decide, by omega, hlen, h0, h1⟩
      rw [upd_ne npl.symm, upd_same]
theorem ok_law_draw (T : Tx w K mg) : FnOk P w K mg base CX0 1 T.a_law_draw T.d_law_draw ["stream", "many"] sp_law_draw := by
  refine T.F_law_draw.ok sc_law_draw (fun vs H Q E h => ?_) (fun cdv A outer s H vs Q E hr h => ?_)
  · obtain ⟨p, q, many, rfl, _⟩ := h
    rfl
  · obtain ⟨p, q, many, rfl, hS, hm0, hm1, k⟩ := h
    refine ⟨_, (C8.pss_cut (ps_if (PW.pt (pw_and (pt_cmpR op_eq (pe_ix ix_list (pv 0) pe_int (fun _ _ => rfl)) pe_int (nomark _)) (pw_and1 (pt_cmpR op_lt (pe_ix ix_list (pv 0) pe_int (fun _ _ => rfl)) (pe_callB call_len_seq (by rfl) T.z_len (by decide +kernel) (pa_cons (pe_ix ix_list (pv 0) pe_int (fun _ _ => rfl)) pa_nil)) (nomark _))))) (pss_cons (ps_asg (pe_callB call_abs (by rfl) T.z_abs (by decide +kernel) (pa_cons (pe_callTy call_int1 (by rfl) T.z_int (by decide +kernel) (pa_cons (pe_ix ix_list (pe_ix ix_list (pv 0) pe_int (fun _ _ => rfl)) (pe_ix ix_list (pv 0) pe_int (fun _ _ => rfl)) (fun _ _ => rfl)) pa_nil)) pa_nil)) (pg_sub (pv 0) pe_int set_list))
      (pss_one (ps_asg (pe_op op_add (pe_ix ix_list (pv 0) pe_int (fun _ _ => rfl)) pe_int) (pg_sub (pv 0) pe_int set_list)))) pss_nil)
      (pss_cons (ps_if (pt_cmpR op_eq (pe_ix ix_list (pv 0) pe_int (fun _ _ => rfl)) pe_int (nomark _)) (pss_cons (ps_asg (pe_op op_mod (pe_callTy call_int1 (by rfl) T.z_int (by decide +kernel) (pa_cons (pe_op op_add (pe_op op_mul (pe_ix ix_list (pv 0) pe_int (fun _ _ => rfl)) pe_int) pe_int) pa_nil)) pe_int) (pg_sub (pv 0) pe_int set_list))
      (pss_one (ps_ret (pe_op op_mod (pe_callTy call_int1 (by rfl) T.z_int (by decide +kernel) (pa_cons (pe_op op_fdivW (pe_ix ix_list (pv 0) pe_int (fun _ _ => rfl)) pe_int) pa_nil)) (pv 1))))) pss_nil)
      (pss_cons (ps_set (i := 2) sc_law_draw.nd rfl (.inl rfl) (pe_op op_mod (pe_callTy call_int1 (by rfl) T.z_int (by decide +kernel) (pa_cons (pe_ix ix_list (pv 0) pe_int (fun _ _ => rfl)) pa_nil)) (pv 1)))
      (pss_cons (ps_asg (pe_op op_fdivW (pe_ix ix_list (pv 0) pe_int (fun _ _ => rfl)) (pv 1)) (pg_sub (pv 0) pe_int set_list))
      (pss_one (ps_ret (pv 2))))))), ?_⟩
    refine ⟨fun σ' H' => σ' = [some (.ref p), some (.int many), none] ∧ But p H H' ∧ Strm q H' p, ?_, ?_⟩
    · have hS0 := hS
      obtain ⟨cur, pos, mixed, ns, e1, e2, c0, p0, p1, l63, m0, m1⟩ := hS
      have nqp : q ≠ p := hS0.pq
      refine ⟨_, rfl, p, _, 1, _, rfl, rfl, SqL.of e1, rfl, rfl, _, rfl, ite2 (fun z1 => ?_) (fun z1 => iteF ⟨rfl, .refl, hS0⟩)⟩
      refine ⟨_, rfl, p, _, 2, _, rfl, rfl, SqL.of e1, rfl, _, rfl, p, _, 0, _, rfl, rfl, SqL.of e1, rfl, q, _, rfl, .inl (SqL.of e2), _, _, rfl, rfl, _, rfl, ite2 (fun z2 => ?_) (fun z2 => ⟨rfl, .refl, hS0⟩)⟩
      have hlt : pos < ns.length := by
        have z3 := of_decide_eq_true z2
        rw [List.length_map] at z3
        exact z3
      obtain ⟨j, rfl⟩ : ∃ j : Nat, pos = (j : Int) := ⟨pos.toNat, by omega⟩
      have hj : j < ns.length := by omega
      have g : (ns.map V.int)[j]? = some (.int ns[j]) := by
        rw [List.getElem?_map, List.getElem?_eq_getElem hj]
        rfl
      refine ⟨_, rfl, p, _, 0, _, rfl, rfl, SqL.of e1, rfl, _, rfl, p, _, 2, _, rfl, rfl, SqL.of e1, rfl, q, _, _, _, rfl, rfl, SqL.of e2, atI_nat g, .inl ⟨_, rfl, _, rfl, ?_⟩⟩
      refine ⟨_, rfl, p, _, 1, 1, rfl, rfl, e1, rfl, ?_⟩
      refine ⟨_, rfl, p, _, 2, _, rfl, rfl, SqL.of upd_same, rfl, _, _, rfl, rfl, _, rfl, p, _, 2, 2, rfl, rfl, upd_same, rfl, ?_⟩
      refine ⟨rfl, But.upd (But.upd .refl), (if ns[j] < 0 then -ns[j] else ns[j]), (j : Int) + 1, mixed, ns, upd_same, ?_, by split <;> omega, by omega, by omega, l63, m0, m1⟩
      rw [upd_ne nqp, upd_ne nqp]
      exact e2
    · rintro σ' H' ⟨rfl, hB, hS2⟩
      have nqp : q ≠ p := hS2.pq
      obtain ⟨cur, pos, mixed, ns, e1, e2, c0, p0, p1, l63, m0, m1⟩ := hS2
      refine ⟨_, rfl, p, _, 1, _, rfl, rfl, SqL.of e1, rfl, rfl, _, rfl, ite2 (fun z1 => ?_) (fun z1 => ?_)⟩
      · refine ⟨_, rfl, p, _, 3, _, rfl, rfl, SqL.of e1, rfl, _, _, rfl, rfl, .inl ⟨by omega, by omega⟩, _, _, rfl, rfl, .inl ⟨_, rfl, _, _, rfl, rfl, (by show (0 : Int) < 2147483647; decide), ?_⟩⟩
        refine ⟨_, rfl, p, _, 3, 3, rfl, rfl, e1, rfl, ?_⟩
        refine ⟨_, rfl, p, _, 3, _, rfl, rfl, SqL.of upd_same, rfl, _, _, rfl, rfl, wide_div (b := 8) (by decide) (by decide) (by decide) (by decide), .inl ⟨_, rfl, _, rfl, _, _, rfl, rfl, hm0, ?_⟩⟩
        refine k _ _ (Int.emod_nonneg _ (by omega)) (Int.emod_lt_of_pos _ hm0) (But.upd hB) ⟨cur, pos, _, ns, upd_same, by rw [upd_ne nqp]; exact e2, c0, p0, p1, l63, Int.emod_nonneg _ (by decide), Int.emod_lt_of_pos _ (by decide)⟩
      · refine ⟨_, rfl, p, _, 1, _, rfl, rfl, SqL.of e1, rfl, .inl ⟨_, rfl, _, rfl, _, _, rfl, rfl, hm0, ?_⟩⟩
        have hw : CDivW cur many := wide_div (b := 100) hm0 (by omega) (by decide) (by decide)
        refine ⟨_, rfl, p, _, 1, _, rfl, rfl, SqL.of e1, rfl, _, rfl, _, _, rfl, rfl, hw, _, rfl, p, _, 1, 1, rfl, rfl, e1, rfl, _, rfl, ?_⟩
        exact k _ _ (Int.emod_nonneg _ (by omega)) (Int.emod_lt_of_pos _ hm0) (But.upd hB) ⟨_, pos, _, ns, upd_same, by rw [upd_ne nqp]; exact e2, Int.ediv_nonneg c0 (by omega), p0, p1, l63, m0, m1⟩
/-! ### a bag of data beside the stream -/
def lstOf (H : Hp) (a : Addr) : List V := match H a with
  | some (.lst xs) => xs
  | _ => []
theorem lstOf_eq {H : Hp} {a : Addr} {xs : List V} (h : H a = some (.lst xs)) : lstOf H a = xs := by
  show (match H a with | some (.lst xs) => xs | _ => []) = xs
  rw [h]
/-- what may change: the stream, and the def's own objects -/
def Mm (X : Addr → Prop) (ma : List Addr) (b : Addr) : Prop := X b ∨ b ∈ ma
/-- at p: a stream; X: what may change from without, p too -/
structure Ext (q p : Addr) (X : Addr → Prop) (H : Hp) : Prop where
  str : Strm q H p
  xp : X p
  xd : ∀ b, X b → H b ≠ none
/-- ma: what the def has made and may change; ps: data that stands; ls: lists of data, by their addresses -/
structure St (K : PySem.W.Frag) (q p : Addr) (X : Addr → Prop) (ma : List Addr) (H0 H : Hp) (ps : List (V × PyData)) (ls : List (Addr × List PyData)) : Prop where
  off : But p H0 H
  xp : X p
  xd : ∀ b, X b → H0 b ≠ none
  old : Strm q H0 p
  own : ∀ b ∈ ma, H0 b = none ∧ H b ≠ none
  str : Strm q H p
  bag : ∀ x ∈ ps, Dt (Mm X ma) K H x.1 x.2
  lst : ∀ x ∈ ls, ¬ X x.1 ∧ ∃ xs, H x.1 = some (.lst xs) ∧ DtAll (Mm X ma) K H xs x.2
  nod : (ls.map (·.1)).Nodup
section
variable {K : PySem.W.Frag} {q p : Addr} {X : Addr → Prop} {ma : List Addr} {H0 H H' : Hp} {ps : List (V × PyData)} {ls : List (Addr × List PyData)}
theorem offBut (xp : X p) (b : But p H H') : Off (Mm X ma) H H' := fun c u n h => b c u (fun e => n (.inl (e ▸ xp))) h
theorem St.get (S : St K q p X ma H0 H ps ls) {v : V} {d : PyData} (h : (v, d) ∈ ps) : Dt (Mm X ma) K H v d := S.bag (v, d) h
theorem St.getL (S : St K q p X ma H0 H ps ls) {a : Addr} {ds : List PyData} (h : (a, ds) ∈ ls) : H a = some (.lst (lstOf H a)) ∧ DtAll (Mm X ma) K H (lstOf H a) ds := by
  obtain ⟨_, xs, e, r⟩ := S.lst (a, ds) h
  rw [lstOf_eq e]
  exact ⟨e, r⟩
theorem St.list (S : St K q p X ma H0 H ps ls) {a : Addr} {ds : List PyData} (h : (a, ds) ∈ ls) (n : a ∉ ma) : Dt (Mm X ma) K H (.ref a) (.list ds) := .laidL (fun z => z.elim (S.lst (a, ds) h).1 n) (S.getL h).1 (S.getL h).2
theorem St.same (S : St K q p X ma H0 H ps ls) (s : Same H H') : St K q p X ma H0 H' ps ls := by
  refine ⟨S.off.same s, S.xp, S.xd, S.old, fun b m => ⟨(S.own b m).1, fun z => ?_⟩, S.str.same s, fun x hx => (S.bag x hx).off (.of s), fun x hx => ?_, S.nod⟩
  · cases e : H b with
    | none => exact (S.own b m).2 e
    | some o => rw [s _ _ e] at z; cases z
  · obtain ⟨n, xs, e, r⟩ := S.lst x hx
    exact ⟨n, xs, s _ _ e, r.off (.of s)⟩
theorem St.draw (S : St K q p X ma H0 H ps ls) (b : But p H H') (s : Strm q H' p) : St K q p X ma H0 H' ps ls := by
  refine ⟨S.off.trans b, S.xp, S.xd, S.old, fun c m => ⟨(S.own c m).1, fun z => ?_⟩, s, fun x hx => (S.bag x hx).off (offBut S.xp b), fun x hx => ?_, S.nod⟩
  · have e : c ≠ p := fun e => by
      obtain ⟨_, _, _, _, e1, _⟩ := s
      rw [e, e1] at z
      cases z
    cases e2 : H c with
    | none => exact (S.own c m).2 e2
    | some o => rw [b c o e e2] at z; cases z
  · obtain ⟨n, xs, e, r⟩ := S.lst x hx
    exact ⟨n, xs, b _ _ (fun z => n (by rw [z]; exact S.xp)) e, r.off (offBut S.xp b)⟩
theorem St.hp (S : St K q p X ma H0 H ps ls) : H p ≠ none := fun z => by
  obtain ⟨_, _, _, _, e1, _⟩ := S.str
  rw [e1] at z
  cases z
theorem St.p0 (S : St K q p X ma H0 H ps ls) : H0 p ≠ none := fun z => by
  obtain ⟨_, _, _, _, e1, _⟩ := S.old
  rw [e1] at z
  cases z
theorem St.q0 (S : St K q p X ma H0 H ps ls) : H0 q ≠ none := fun z => by
  obtain ⟨_, _, _, _, _, e1, _⟩ := S.old
  rw [e1] at z
  cases z
theorem St.xh (S : St K q p X ma H0 H ps ls) {b : Addr} (x : X b) : H b ≠ none := fun z => by
  by_cases e : b = p
  · exact S.hp (e ▸ z)
  · cases e2 : H0 b with
    | none => exact S.xd b x e2
    | some o => rw [S.off b o e e2] at z; cases z
theorem St.new (S : St K q p X ma H0 H ps ls) {t : Addr} (n : H t = none) : ¬ Mm X ma t := fun m => m.elim (fun e => S.xh e n) fun m => (S.own t m).2 n
theorem St.new0 (S : St K q p X ma H0 H ps ls) {t : Addr} (n : H t = none) : H0 t = none := by
  cases e : H0 t with
  | none => rfl
  | some o => rw [S.off t o (fun z => S.hp (z ▸ n)) e] at n; cases n
theorem St.newL (S : St K q p X ma H0 H ps ls) {t : Addr} (n : H t = none) : t ∉ ls.map (·.1) := fun m => by
  obtain ⟨x, hx, e⟩ := List.mem_map.mp m
  obtain ⟨_, xs, e2, _⟩ := S.lst x hx
  rw [e, n] at e2
  cases e2
theorem St.put (S : St K q p X ma H0 H ps ls) {v : V} {d : PyData} (h : Dt (Mm X ma) K H v d) : St K q p X ma H0 H ((v, d) :: ps) ls :=
  ⟨S.off, S.xp, S.xd, S.old, S.own, S.str, fun x hx => (List.mem_cons.mp hx).elim (fun e => e ▸ h) (S.bag x), S.lst, S.nod⟩
theorem St.tup' (S : St K q p X ma H0 H ps ls) {t : Addr} {xs : List V} {ds : List PyData} (n : H t = none) (e : L2.upd H t (.tup xs) = H') (h : DtAll (Mm X ma) K H xs ds) : St K q p X ma H0 H' ((.ref t, .tuple ds) :: ps) ls := by
  subst e
  have s : Same H (L2.upd H t (.tup xs)) := same_new5 n
  exact (S.same s).put (.laid (S.new n) upd_same (h.off (.of s)))
theorem St.putL (S : St K q p X ma H0 H ps ls) {t : Addr} {xs : List V} {ds : List PyData} (n : ¬ X t) (m : t ∉ ls.map (·.1)) (e : H t = some (.lst xs)) (h : DtAll (Mm X ma) K H xs ds) : St K q p X ma H0 H ps ((t, ds) :: ls) :=
  ⟨S.off, S.xp, S.xd, S.old, S.own, S.str, S.bag, fun x hx => (List.mem_cons.mp hx).elim (fun z => by subst z; exact ⟨n, xs, e, h⟩) (S.lst x), List.nodup_cons.mpr ⟨m, S.nod⟩⟩
theorem St.lst' (S : St K q p X ma H0 H ps ls) {t : Addr} {xs : List V} {ds : List PyData} (n : H t = none) (e : L2.upd H t (.lst xs) = H') (h : DtAll (Mm X ma) K H xs ds) : St K q p X ma H0 H' ps ((t, ds) :: ls) := by
  subst e
  have s : Same H (L2.upd H t (.lst xs)) := same_new5 n
  exact (S.same s).putL (fun z => S.xh z n) (S.newL n) upd_same (h.off (.of s))
/-- a new object that the def may change: no data holds it -/
theorem St.own' (S : St K q p X ma H0 H ps ls) {t : Addr} (n : H t = none) (s : Same H H') (o : H' t ≠ none) : St K q p X (t :: ma) H0 H' ps ls := by
  have S' := S.same s
  have more : ∀ b, Mm X (t :: ma) b → Mm X ma b ∨ H b = none := fun b m => by
    rcases m with m | m
    · exact .inl (.inl m)
    · rcases List.mem_cons.mp m with m | m
      · exact .inr (m ▸ n)
      · exact .inl (.inr m)
  refine ⟨S'.off, S.xp, S.xd, S.old, fun b m => ?_, S'.str, fun x hx => ((S.bag x hx).more more).off (.of s), fun x hx => ?_, S.nod⟩
  · rcases List.mem_cons.mp m with m | m
    · rw [m]
      exact ⟨S.new0 n, o⟩
    · exact S'.own b m
  · obtain ⟨ne, xs, e, r⟩ := S.lst x hx
    exact ⟨ne, xs, s _ _ e, (r.more more).off (.of s)⟩
/-- a new list that the def may change -/
theorem St.mut' (S : St K q p X ma H0 H ps ls) {t : Addr} {xs : List V} {ds : List PyData} (n : H t = none) (e : L2.upd H t (.lst xs) = H') (h : DtAll (Mm X ma) K H xs ds) : St K q p X (t :: ma) H0 H' ps ((t, ds) :: ls) := by
  subst e
  have s : Same H (L2.upd H t (.lst xs)) := same_new5 n
  have S' := S.own' n s (by rw [upd_same]; intro z; cases z)
  refine S'.putL (fun z => S.xh z n) (S.newL n) upd_same ((h.more fun b m => ?_).off (.of s))
  rcases m with m | m
  · exact .inl (.inl m)
  · rcases List.mem_cons.mp m with m | m
    · exact .inr (m ▸ n)
    · exact .inl (.inr m)
/-- nothing changes what is only made -/
theorem St.calm (S : St K q p X ma H0 H ps ls) {mb : List Addr} (h : ∀ b ∈ mb, b ∈ ma) : St K q p X mb H0 H ps ls := by
  have more : ∀ b, Mm X mb b → Mm X ma b ∨ H b = none := fun b m => m.elim (fun m => .inl (.inl m)) fun m => .inl (.inr (h b m))
  refine ⟨S.off, S.xp, S.xd, S.old, fun b m => S.own b (h b m), S.str, fun x hx => (S.bag x hx).more more, fun x hx => ?_, S.nod⟩
  obtain ⟨ne, xs, e, r⟩ := S.lst x hx
  exact ⟨ne, xs, e, r.more more⟩
/-- a change of an own object that is no list of ls -/
theorem St.chg (S : St K q p X ma H0 H ps ls) {t : Addr} {o : HO} (m : t ∈ ma) (n : t ∉ ls.map (·.1)) : St K q p X ma H0 (L2.upd H t o) ps ls := by
  have tp : t ≠ p := fun z => S.p0 (z ▸ (S.own t m).1)
  have tq : t ≠ q := fun z => S.q0 (z ▸ (S.own t m).1)
  have off : Off (Mm X ma) H (L2.upd H t o) := fun b u nb hb => by
    have nt : b ≠ t := fun e => nb (.inr (by rw [e]; exact m))
    rw [upd_ne nt]; exact hb
  refine ⟨fun b u nb hb => ?_, S.xp, S.xd, S.old, fun b mb => ⟨(S.own b mb).1, fun z => ?_⟩, S.str.upd tp tq, fun x hx => (S.bag x hx).off off, fun x hx => ?_, S.nod⟩
  · rw [upd_ne (fun e => by rw [e, (S.own t m).1] at hb; cases hb)]
    exact S.off b u nb hb
  · by_cases e : b = t
    · rw [e, upd_same] at z; cases z
    · rw [upd_ne e] at z; exact (S.own b mb).2 z
  · obtain ⟨ne, xs, e, r⟩ := S.lst x hx
    exact ⟨ne, xs, by rw [upd_ne (fun z => n (List.mem_map.mpr ⟨x, hx, z⟩))]; exact e, r.off off⟩
/-- the first list of ls becomes another one -/
theorem St.upd1 {t : Addr} {ds es : List PyData} {xs : List V} (S : St K q p X ma H0 H ps ((t, ds) :: ls)) (m : t ∈ ma) (h : DtAll (Mm X ma) K H xs es) : St K q p X ma H0 (L2.upd H t (.lst xs)) ps ((t, es) :: ls) := by
  have nd := List.nodup_cons.mp S.nod
  have S' : St K q p X ma H0 H ps ls := ⟨S.off, S.xp, S.xd, S.old, S.own, S.str, S.bag, fun x hx => S.lst x (.tail _ hx), nd.2⟩
  have off : Off (Mm X ma) H (L2.upd H t (.lst xs)) := fun b u nb hb => by
    have nt : b ≠ t := fun e => nb (.inr (by rw [e]; exact m))
    rw [upd_ne nt]; exact hb
  exact (S'.chg m nd.1).putL (S.lst _ (.head _)).1 nd.1 upd_same (h.off off)
theorem St.begin (S : Ext q p X H) : St K q p X [] H H [] [] := ⟨.refl, S.xp, S.xd, S.str, fun _ h => (by cases h), S.str, fun _ h => (by cases h), fun _ h => (by cases h), List.nodup_nil⟩
theorem St.sub (S : St K q p X ma H0 H ps ls) {qs : List (V × PyData)} {ms : List (Addr × List PyData)} (h : ∀ x ∈ qs, x ∈ ps) (g : ms.Sublist ls) : St K q p X ma H0 H qs ms := ⟨S.off, S.xp, S.xd, S.old, S.own, S.str, fun x hx => S.bag x (h x hx), fun x hx => S.lst x (g.subset hx), S.nod.sublist (g.map _)⟩
theorem St.ext (S : St K q p X ma H0 H ps ls) : Ext q p (Mm X ma) H := ⟨S.str, .inl S.xp, fun b m => m.elim (fun x => S.xh x) fun m => (S.own b m).2⟩
theorem Dt.x {v : V} {d : PyData} (h : Dt (Mm X []) K H v d) : Dt X K H v d := h.more fun _ m => .inl (.inl m)
theorem Dt.m {v : V} {d : PyData} (h : Dt X K H v d) : Dt (Mm X []) K H v d := h.more fun _ m => .inl (m.elim id fun z => by cases z)
theorem St.bare (S : St K q p X ma H0 H ps ls) : St K q p X ma H0 H [] [] := S.sub (fun _ h => by cases h) (List.nil_sublist _)
theorem St.only (S : St K q p X ma H0 H ps ls) {x : V × PyData} (h : x ∈ ps) : St K q p X ma H0 H [x] [] := S.sub (fun y hy => by
  rw [List.mem_singleton] at hy
  rw [hy]
  exact h) (List.nil_sublist _)
theorem St.catSize (S : St K q p X ma H0 H ps ls) {a b : Addr} {ds es : List PyData} (ha : (a, ds) ∈ ls) (hb : (b, es) ∈ ls) (h : ds.length + es.length ≤ 1000) : (lstOf H a).length + (lstOf H b).length ≤ sizeLine := by
  rw [(S.getL ha).2.len, (S.getL hb).2.len]
  exact Nat.le_trans h (by rw [sizeLine_eq]; decide)
/-- one of a list's items, by its place -/
theorem DtAll.pick {M : Addr → Prop} {xs : List V} {ds : List PyData} (h : DtAll M K H xs ds) {u : Int} (h0 : 0 ≤ u) (h1 : u < ds.length) :
    ∃ v d, atI xs u = some v ∧ ds[u.toNat]? = some d ∧ d ∈ ds ∧ Dt M K H v d := by
  obtain ⟨n, rfl⟩ : ∃ n : Nat, u = (n : Int) := ⟨u.toNat, by omega⟩
  have hn : n < ds.length := by omega
  obtain ⟨v, e1, dv⟩ := DtAll.at h (List.getElem?_eq_getElem hn)
  exact ⟨v, ds[n], atI_nat e1, List.getElem?_eq_getElem hn, List.getElem_mem hn, dv⟩
theorem Dt.tupInv {M : Addr → Prop} {v : V} {ds : List PyData} (h : Dt M K H v (.tuple ds)) : ∃ a xs, v = .ref a ∧ SqT K H a xs ∧ DtAll M K H xs ds := by
  cases h with
  | @tup a xs _ hs hd => exact ⟨a, xs, rfl, hs.sq, hd⟩
theorem Dt.lstInv {M : Addr → Prop} {v : V} {ds : List PyData} (h : Dt M K H v (.list ds)) : ∃ a xs, v = .ref a ∧ SqL K H a xs ∧ DtAll M K H xs ds := by
  cases h with
  | @lst a xs _ hs hd => exact ⟨a, xs, rfl, hs.sq, hd⟩
end
section
variable {K : PySem.W.Frag} {q p : Addr} {X : Addr → Prop} {ma : List Addr} {H0 H H' : Hp} {ps : List (V × PyData)} {ls : List (Addr × List PyData)} {M : Addr → Prop}
theorem Dt.intInv {v : V} {i : Int} (h : Dt M K H v (.int i)) : v = .int i := by cases h; rfl
theorem Dt.strInv {v : V} {x : Str} (h : Dt M K H v (.str x)) : v = .str x := by cases h; rfl
theorem Dt.boolInv {v : V} {b : Bool} (h : Dt M K H v (.bool b)) : v = .bl b := by cases h; rfl
/-- an item is put behind the first list -/
theorem St.snoc {D : Addr} {ds : List PyData} {y : V} {d : PyData} (S : St K q p X ma H0 H ps ((D, ds) :: ls)) (m : D ∈ ma) (h : Dt (Mm X ma) K H y d) (hl : ds.length ≤ 1000) :
    ∃ acc, H D = some (.lst acc) ∧ acc.length < sizeLine ∧ St K q p X ma H0 (L2.upd H D (.lst (acc ++ [y]))) ps ((D, ds ++ [d]) :: ls) := by
  obtain ⟨e, r⟩ := S.getL (.head _)
  exact ⟨_, e, small1000 (by rw [r.len]; exact hl), S.upd1 m (r.app (.cons h .nil))⟩
theorem Off.grow {S : St K q p X ma H0 H ps ls} {t : Addr} (n : H t = none) {v : V} {d : PyData} (h : Dt (Mm X ma) K H v d) : Dt (Mm X (t :: ma)) K H v d := h.more fun b m => by
  rcases m with m | m
  · exact .inl (.inl m)
  · rcases List.mem_cons.mp m with m | m
    · exact .inr (m ▸ n)
    · exact .inl (.inr m)
theorem St.calm1 {t : Addr} (S : St K q p X (t :: ma) H0 H ps ls) : St K q p X ma H0 H ps ls := S.calm fun _ h => .tail _ h
theorem St.dropL {x : Addr × List PyData} (S : St K q p X ma H0 H ps (x :: ls)) : St K q p X ma H0 H ps ls := S.sub (fun _ h => h) (List.sublist_cons_self _ _)
theorem St.lists (S : St K q p X ma H0 H ps ls) {a : Addr} {ds : List PyData} (h : (a, ds) ∈ ls) : ∃ xs, H a = some (.lst xs) ∧ DtAll (Mm X ma) K H xs ds := ⟨_, S.getL h⟩
theorem St.ints (S : St K q p X ma H0 H ps ls) {a : Addr} {ns : List Int} (s : Same H H') (n : H a = none) (e : H' a = some (.lst (ns.map V.int))) : St K q p X ma H0 H' ps ((a, ns.map PyData.int) :: ls) :=
  (S.same s).putL (fun z => S.xh z n) (S.newL n) e (DtAll.ints ns)
end
set_option hygiene false
local macro_rules | `(tactic| walk_at "mem") => `(tactic| (repeat (first | exact List.Mem.head _ | refine List.Mem.tail _ ?_)))
local macro_rules | `(tactic| walk_at "one") => `(tactic| first | exact Dt.int _ | exact Dt.str _ | exact Dt.bl _ | exact Dt.non | exact S.get (by walk_at "mem") | exact S.list (by walk_at "mem") (by simp))
local macro_rules | `(tactic| walk_at "has") => `(tactic| first | exact DtAll.nil | exact DtAll.cons (by walk_at "one") (by walk_at "has"))
local macro_rules | `(tactic| walk_at "size") => `(tactic| first | exact Nat.zero_le _ | exact Nat.le_of_lt (small1000 (Nat.le_of_ble_eq_true rfl)))
local macro_rules | `(tactic| walk_at "obj") => `(tactic| (refine ⟨by walk_at "size", fun t n => ?_⟩; generalize hx : L2.upd _ t _ = Hc; (first | replace S := S.tup' n hx (by walk_at "has") | replace S := S.lst' n hx (by walk_at "has")); clear n hx))
local macro_rules | `(tactic| walk_at "cat") => `(tactic| (refine ⟨_, _, _, _, rfl, rfl, (S.getL (by walk_at "mem")).1, (S.getL (by walk_at "mem")).1, S.catSize (by walk_at "mem") (by walk_at "mem") (Nat.le_of_ble_eq_true rfl), fun t n => ?_⟩; generalize hx : L2.upd _ t _ = Hc; replace S := S.lst' n hx (DtAll.app (S.getL (by walk_at "mem")).2 (S.getL (by walk_at "mem")).2); dsimp only [List.cons_append, List.nil_append] at S; clear n hx))
local macro_rules | `(tactic| walk_at "draw") => `(tactic| (refine ⟨_, _, _, rfl, S.str, (by first | decide | omega), (by first | decide | omega), fun u Hc u0 u1 b s => ?_⟩; replace S := S.draw b s; clear b s))
local macro_rules | `(tactic| walk_at "pick") => `(tactic| (obtain ⟨v, e, h2, h3, h4, h5⟩ := DtAll.pick (S.getL (a := t) (by walk_at "mem")).2 u0 (by first | exact u1 | omega); refine ⟨_, _, _, _, rfl, rfl, SqL.of (S.getL (a := t) (by walk_at "mem")).1, h2, ?_⟩; replace S := S.put h5; clear h2 h3 h5 u0 u1))
local macro_rules | `(tactic| walk_at "go") => `(tactic| repeat (first | refine ⟨_, rfl, ?_⟩ | walk_at "obj" | walk_at "cat"))
set_option hygiene true
set_option hygiene false
local macro_rules | `(tactic| walk_at "trim") => `(tactic| exact S.sub (fun x hx => by (repeat (first | exact hx | refine List.Mem.tail _ ?_))) (by (repeat (first | exact List.Sublist.refl _ | refine List.Sublist.cons _ ?_))))
set_option hygiene true
/-! ### the law's flow graphs: words, frames, kinds -/
def sp_law_word : Sp := fun vs H Q _ => ∃ p q X, vs = [.ref p] ∧ Ext q p X H ∧ ∀ (n : Int) H', -2147483648 ≤ n → n ≤ 2147483647 → But p H H' → Strm q H' p → Q (.int n) H'
theorem ok_law_word (T : Tx w K mg) : FnOk P w K mg base CX0 2 T.a_law_word T.d_law_word ["stream"] sp_law_word := by
  refine T.F_law_word.ok sc_law_word (fun vs H Q E h => ?_) (fun cdv A outer s H vs Q E hr h => ?_)
  · obtain ⟨p, q, X, rfl, _⟩ := h
    rfl
  · obtain ⟨p, q, X, rfl, hS, k⟩ := h
    refine ⟨_, (pss_cons (ps_if (pt_cmpR op_eq (pe_call (ok_law_draw T) (hr.mono (by decide)) (by rfl) T.g_law_draw T.F_law_draw.kp T.b_law_draw .nil pass0 (pa_cons (pv 0) (pa_cons pe_int pa_nil))) pe_int (nomark _)) (pss_one (ps_ret (pe_ix ix_list (pe_lst (pa_cons (pe_op op_sub (pe_op op_pow pe_int pe_int) pe_int) (pa_cons (pe_op op_sub pe_int (pe_op op_pow pe_int pe_int)) (pa_cons pe_int (pa_cons (pe_un un_neg pe_int) (pa_cons pe_int (pa_cons pe_int pa_nil))))))) (pe_call (ok_law_draw T) (hr.mono (by decide)) (by rfl) T.g_law_draw T.F_law_draw.kp T.b_law_draw .nil pass0 (pa_cons (pv 0) (pa_cons pe_int pa_nil))) (fun _ _ => rfl)))) pss_nil)
      (pss_one (ps_ret (pe_op op_sub (pe_call (ok_law_draw T) (hr.mono (by decide)) (by rfl) T.g_law_draw T.F_law_draw.kp T.b_law_draw .nil pass0 (pa_cons (pv 0) (pa_cons pe_int pa_nil))) pe_int)))), ?_⟩
    have c31 : CPow 2 31 := ⟨by decide, by decide, by decide⟩
    have S := St.begin (K := K) hS
    refine ⟨_, rfl, ?_⟩
    walk_at "draw"
    refine ⟨rfl, _, rfl, ite2 (fun z => ?_) (fun z => ?_)⟩
    · refine ⟨_, _, rfl, rfl, c31, _, _, rfl, rfl, _, _, rfl, rfl, c31, _, _, rfl, rfl, ?_⟩
      walk_at "go"
      walk_at "draw"
      walk_at "pick"
      have h5 := S.get (.head _)
      simp only [List.mem_cons, List.not_mem_nil, or_false] at h4
      rcases h4 with rfl | rfl | rfl | rfl | rfl | rfl <;> (cases Dt.intInv h5; exact k _ _ (by decide) (by decide) S.off S.str)
    · refine ⟨_, rfl, ?_⟩
      walk_at "draw"
      refine ⟨_, _, rfl, rfl, ?_⟩
      exact k _ _ (by omega) (by omega) S.off S.str
def paramRows : List (List PyData) := [[.tuple [.str "n", .str "int"], .tuple [.str "m", .str "int"], .tuple [.str "a", .str "buffer"], .tuple [.str "k", .str "int"], .tuple [.str "b", .str "buffer"], .tuple [.str "c", .str "buffer"]],
  [.tuple [.str "n", .str "int"], .tuple [.str "a", .str "buffer"], .tuple [.str "b", .str "buffer"]], [.tuple [.str "a", .str "buffer"], .tuple [.str "m", .str "int"], .tuple [.str "n", .str "int"]], []]
def sharedNames : List Str := ["s", "s2", "s3"]
def SharedOk (i : Nat) (d : PyData) : Prop := ∃ (s : Str) (n : Int), sharedNames[i]? = some s ∧ d = .tuple [.str s, .int n] ∧ n ∈ ([1, 2, 4, 9, 16] : List Int)
def FrameOk (ps ss : List PyData) : Prop := ps ∈ paramRows ∧ ss.length ≤ 3 ∧ ∀ i d, ss[i]? = some d → SharedOk i d
def sp_law_frame (K : PySem.W.Frag) : Sp := fun vs H Q _ => ∃ p q X, vs = [.ref p] ∧ Ext q p X H ∧ ∀ (v : V) H' (ps ss : List PyData), FrameOk ps ss → But p H H' → Strm q H' p → Dt X K H' v (.tuple [.tuple ps, .tuple ss]) → Q v H'
theorem ok_law_frame (T : Tx w K mg) : FnOk P w K mg base CX0 2 T.a_law_frame T.d_law_frame ["stream"] (sp_law_frame K) := by
  refine T.F_law_frame.ok sc_law_frame (fun vs H Q E h => ?_) (fun cdv A outer s H vs Q E hr h => ?_)
  · obtain ⟨p, q, X, rfl, _⟩ := h
    rfl
  · obtain ⟨p, q, X, rfl, hS, k⟩ := h
    refine ⟨_, (pss_cons (ps_set (i := 1) sc_law_frame.nd rfl (.inl rfl) (pe_lst (pa_cons (pe_tup (pa_cons (pe_tup (pa_cons pe_str (pa_cons pe_str pa_nil))) (pa_cons (pe_tup (pa_cons pe_str (pa_cons pe_str pa_nil))) (pa_cons (pe_tup (pa_cons pe_str (pa_cons pe_str pa_nil))) pa_nil)))) (pa_cons (pe_tup (pa_cons (pe_tup (pa_cons pe_str (pa_cons pe_str pa_nil))) (pa_cons (pe_tup (pa_cons pe_str (pa_cons pe_str pa_nil))) (pa_cons (pe_tup (pa_cons pe_str (pa_cons pe_str pa_nil))) pa_nil)))) (pa_cons (pe_tup pa_nil) pa_nil)))))
      (pss_cons (ps_set (i := 1) sc_law_frame.nd rfl (.inl rfl) (pe_op op_cat (pe_lst (pa_cons (pe_tup (pa_cons (pe_tup (pa_cons pe_str (pa_cons pe_str pa_nil))) (pa_cons (pe_tup (pa_cons pe_str (pa_cons pe_str pa_nil))) (pa_cons (pe_tup (pa_cons pe_str (pa_cons pe_str pa_nil))) (pa_cons (pe_tup (pa_cons pe_str (pa_cons pe_str pa_nil))) (pa_cons (pe_tup (pa_cons pe_str (pa_cons pe_str pa_nil))) (pa_cons (pe_tup (pa_cons pe_str (pa_cons pe_str pa_nil))) pa_nil))))))) pa_nil)) (pv 1)))
      (pss_cons (ps_set (i := 2) sc_law_frame.nd rfl (.inl rfl) (pe_callTy call_tuple_of (by rfl) T.z_tuple (by decide +kernel) (pa_cons (pe_lc (own := [("k", 3)]) (g := gName 3) (tt := tYes) rfl sc_law_frame.nd (pi_range1 (by rfl) T.z_range (pa_cons (pe_call (ok_law_draw T) (hr.mono (by decide)) (by rfl) T.g_law_draw T.F_law_draw.kp T.b_law_draw .nil pass0 (pa_cons (pv 0) (pa_cons pe_int pa_nil))) pa_nil)) (blkOk_by (N := ["stream", "rows", "shared", "k"]) (sc := defScope s_law_frame) (by decide +kernel)) (fun _ _ _ _ _ => (pg_name (i := 3) sc_law_frame.nd rfl (.inl rfl))) (fun _ _ _ _ _ => pts_nil) (fun _ _ _ _ _ => (pe_tup (pa_cons (pe_ix (show IxR _ (rIxL K) from ix_list) (pe_lst (pa_cons pe_str (pa_cons pe_str (pa_cons pe_str pa_nil)))) (pv 3) (fun _ _ => rfl)) (pa_cons (pe_ix (show IxR _ (rIxL K) from ix_list) (pe_lst (pa_cons pe_int (pa_cons pe_int (pa_cons pe_int (pa_cons pe_int (pa_cons pe_int pa_nil)))))) (pe_call (ok_law_draw T) (hr.mono (by decide)) (by rfl) T.g_law_draw T.F_law_draw.kp T.b_law_draw .nil pass0 (pa_cons (pv 0) (pa_cons pe_int pa_nil))) (fun _ _ => rfl)) pa_nil))))) pa_nil)))
      (pss_one (ps_ret (pe_tup (pa_cons (pe_ix ix_list (pv 1) (pe_op op_fdivW (pe_callTy call_int1 (by rfl) T.z_int (by decide +kernel) (pa_cons (pe_call (ok_law_draw T) (hr.mono (by decide)) (by rfl) T.g_law_draw T.F_law_draw.kp T.b_law_draw .nil pass0 (pa_cons (pv 0) (pa_cons pe_int pa_nil))) pa_nil)) pe_int) (fun _ _ => rfl)) (pa_cons (pv 2) pa_nil)))))))), ?_⟩
    have S := St.begin (K := K) hS
    walk_at "go"
    rename_i tr _
    walk_at "draw"
    refine ⟨u, rfl, by omega, by omega, fun D nD => ?_⟩
    refine lc_range (n := u.toNat) (fun j H' => ∃ ds, j ≤ 3 ∧ ds.length = j ∧ (∀ i d, ds[i]? = some d → SharedOk i d) ∧ St K q p X [D] H H' _ ((D, ds) :: _))
      ⟨[], by omega, rfl, (fun i d h => by simp at h), S.mut' nD rfl .nil⟩ ?_ ?_
    · rintro j H4 hj ⟨ds, hj3, hl, hs, S⟩
      refine ⟨rfl, ?_⟩
      walk_at "go"
      obtain ⟨v, e, h2, h3, h4, h5⟩ := DtAll.pick (S.getL (a := t) (by walk_at "mem")).2 (u := 0 + (j : Int)) (by omega) (by show (0 + (j : Int)) < 3; omega)
      refine ⟨_, _, _, _, rfl, rfl, SqL.of (S.getL (a := t) (by walk_at "mem")).1, h2, ?_⟩
      have nm : ∃ s, sharedNames[j]? = some s ∧ e = .str s := by
        have hj' : j = 0 ∨ j = 1 ∨ j = 2 := by omega
        rcases hj' with rfl | rfl | rfl <;> (cases h3; exact ⟨_, rfl, rfl⟩)
      obtain ⟨sn, e1, rfl⟩ := nm
      cases Dt.strInv h5
      have hj1 : j + 1 ≤ 3 := by omega
      clear h2 h3 h4 h5 u0 u1
      walk_at "go"
      walk_at "draw"
      walk_at "pick"
      have nn : ∃ n : Int, e = .int n ∧ n ∈ ([1, 2, 4, 9, 16] : List Int) := by
        simp only [List.mem_cons, List.not_mem_nil, or_false] at h4
        rcases h4 with rfl | rfl | rfl | rfl | rfl <;> exact ⟨_, rfl, by decide⟩
      obtain ⟨n, rfl, hn⟩ := nn
      cases Dt.intInv (S.get (.head _))
      walk_at "go"
      have S2 : St K q p X [D] H Hc _ ((D, ds) :: _) := S.dropL.dropL
      obtain ⟨acc, a1, a2, S3⟩ := S2.snoc (.head _) (S.get (.head _)) (by omega)
      refine ⟨acc, a1, a2, _, by omega, by rw [List.length_append, hl]; rfl, fun i d hd => ?_, S3.sub (fun x hx => by (repeat (first | exact hx | refine List.Mem.tail _ ?_))) (List.Sublist.refl _)⟩
      by_cases hi : i < ds.length
      · rw [List.getElem?_append_left hi] at hd
        exact hs i d hd
      · rw [List.getElem?_append_right (by omega)] at hd
        obtain rfl : i = ds.length := by
          have := (List.getElem?_eq_some_iff.mp hd).1
          simp at this
          omega
        rw [Nat.sub_self] at hd
        cases hd
        exact ⟨sn, n, by rw [hl]; exact e1, rfl, hn⟩
    · rintro H4 ⟨ds, hj3, hl, hs, S⟩
      refine ⟨D, _, rfl, .inl ⟨SqL.of (S.getL (.head _)).1, fun tS n => ?_⟩⟩
      generalize hx : L2.upd _ tS _ = Hc
      replace S := (S.tup' n hx (S.getL (.head _)).2).dropL.calm1
      clear n hx
      walk_at "go"
      walk_at "draw"
      refine .inl ⟨_, rfl, _, _, rfl, rfl, wide_div (b := 8) (by decide) (by decide) (by decide) (by decide), ?_⟩
      obtain ⟨v, e, h2, h3, h4, h5⟩ := DtAll.pick (S.getL (a := t) (by walk_at "mem")).2 (u := u / 3) (by omega) (by show u / 3 < 4; omega)
      refine ⟨_, _, _, _, rfl, rfl, SqL.of (S.getL (a := t) (by walk_at "mem")).1, h2, ?_⟩
      replace S := S.put h5
      have hp : ∃ ps, e = .tuple ps ∧ ps ∈ paramRows := by
        simp only [List.mem_cons, List.not_mem_nil, or_false] at h4
        rcases h4 with rfl | rfl | rfl | rfl
        · exact ⟨_, rfl, .head _⟩
        · exact ⟨_, rfl, .tail _ (.head _)⟩
        · exact ⟨_, rfl, .tail _ (.tail _ (.head _))⟩
        · exact ⟨_, rfl, .tail _ (.tail _ (.tail _ (.head _)))⟩
      obtain ⟨ps, rfl, hp⟩ := hp
      walk_at "go"
      exact k _ _ ps ds ⟨hp, by omega, hs⟩ S.off S.str (Dt.x (S.get (.head _)))
theorem Dp.tupInv {K : PySem.W.Frag} {H : Hp} {v : V} {ds : List PyData} (h : Dp K H v (.tuple ds)) : ∃ a xs, v = .ref a ∧ SqT K H a xs ∧ DpAll K H xs ds := by
  cases h with
  | @tup a xs _ hs hd => exact ⟨a, xs, rfl, hs, hd⟩
theorem Dp.lstInv {K : PySem.W.Frag} {H : Hp} {v : V} {ds : List PyData} (h : Dp K H v (.list ds)) : ∃ a xs, v = .ref a ∧ SqL K H a xs ∧ DpAll K H xs ds := by
  cases h with
  | @lst a xs _ hs hd => exact ⟨a, xs, rfl, hs, hd⟩
theorem Dp.strInv {K : PySem.W.Frag} {H : Hp} {v : V} {x : Str} (h : Dp K H v (.str x)) : v = .str x := by cases h; rfl
theorem Dp.intInv {K : PySem.W.Frag} {H : Hp} {v : V} {x : Int} (h : Dp K H v (.int x)) : v = .int x := by cases h; rfl
theorem DpAll.ints {K : PySem.W.Frag} {H : Hp} : ∀ xs : List Int, DpAll K H (xs.map V.int) (xs.map PyData.int)
  | [] => .nil
  | x :: r => .cons (.int x) (DpAll.ints r)
/-- an item of a tuple of data -/
theorem Dp.item {K : PySem.W.Frag} {H : Hp} {v : V} {ds : List PyData} {d : PyData} {i : Nat} (h : Dp K H v (.tuple ds)) (e : ds[i]? = some d) : ∃ a xs u, v = .ref a ∧ SqT K H a xs ∧ atI xs (i : Int) = some u ∧ Dp K H u d := by
  obtain ⟨a, xs, rfl, hs, hd⟩ := Dp.tupInv h
  obtain ⟨u, e1, du⟩ := DpAll.at hd e
  exact ⟨a, xs, u, rfl, hs, atI_nat e1, du⟩
theorem Dp.itemL {K : PySem.W.Frag} {H : Hp} {v : V} {ds : List PyData} {d : PyData} {i : Nat} (h : Dp K H v (.list ds)) (e : ds[i]? = some d) : ∃ a xs u, v = .ref a ∧ SqL K H a xs ∧ atI xs (i : Int) = some u ∧ Dp K H u d := by
  obtain ⟨a, xs, rfl, hs, hd⟩ := Dp.lstInv h
  obtain ⟨u, e1, du⟩ := DpAll.at hd e
  exact ⟨a, xs, u, rfl, hs, atI_nat e1, du⟩
def sortOf : PyData → Str
  | .tuple [_, .str s] => s
  | _ => ""
def kindTo (ps : List PyData) (kind : Str) (j : Nat) : List Int := ((List.range j).filter fun k => decide (sortOf (ps.getD k .none) = kind)).map Int.ofNat
def kinds (ps ss : List PyData) (kind : Str) : List Int := if kind = "buffer" then kindTo ps kind ps.length ++ (List.range ss.length).map (fun k => 6 + Int.ofNat k) else kindTo ps kind ps.length
theorem rows_pairs {ps : List PyData} (h : ps ∈ paramRows) : ps.length ≤ 6 ∧ ∀ d ∈ ps, ∃ a b, d = .tuple [.str a, .str b] := by
  simp only [paramRows, List.mem_cons, List.not_mem_nil, or_false] at h
  rcases h with rfl | rfl | rfl | rfl
  all_goals
    refine ⟨by simp, fun d hd => ?_⟩
    simp only [List.mem_cons, List.not_mem_nil, or_false] at hd
  · rcases hd with rfl | rfl | rfl | rfl | rfl | rfl <;> exact ⟨_, _, rfl⟩
  · rcases hd with rfl | rfl | rfl <;> exact ⟨_, _, rfl⟩
  · rcases hd with rfl | rfl | rfl <;> exact ⟨_, _, rfl⟩
def sp_law_kinds (K : PySem.W.Frag) : Sp := fun vs H Q _ => ∃ (v : V) (kind : Str) (ps ss : List PyData), vs = [v, .str kind] ∧ Dp K H v (.tuple [.tuple ps, .tuple ss]) ∧ FrameOk ps ss ∧
  ∀ r H', Same H H' → H r = none → H' r = some (.lst ((kinds ps ss kind).map V.int)) → Q (.ref r) H'
theorem ok_law_kinds (T : Tx w K mg) : FnOk P w K mg base CX0 1 T.a_law_kinds T.d_law_kinds ["frame", "kind"] (sp_law_kinds K) := by
  refine T.F_law_kinds.ok sc_law_kinds (fun vs H Q E h => ?_) (fun cdv A outer s H vs Q E hr h => ?_)
  · obtain ⟨v, kind, ps, ss, rfl, _⟩ := h
    rfl
  · obtain ⟨v, kind, ps, ss, rfl, dv, ⟨hp, hs3, hss⟩, k⟩ := h
    refine ⟨_, (pss_cons (ps_setLc (i := 2) (own := [("k", 3)]) (g := gName 3)  rfl sc_law_kinds.nd rfl rfl (sw_true rfl rfl rfl (by decide +kernel)) (pi_range1 (by rfl) T.z_range (pa_cons (pe_callB call_len_seq (by rfl) T.z_len (by decide +kernel) (pa_cons (pe_ix ix_tup (pv 0) pe_int (fun _ _ => rfl)) pa_nil)) pa_nil)) (blkOk_by (N := ["frame", "kind", "found", "k"]) (sc := defScope s_law_kinds) (by decide +kernel)) (fun _ _ _ _ _ => (pg_name (i := 3) sc_law_kinds.nd rfl (.inl rfl))) (fun _ _ _ _ _ => (pts_one (pt_cmpR op_eq (pe_ix (show IxR _ (rIxT K) from ix_tup) (pe_ix (show IxR _ (rIxT K) from ix_tup) (pe_ix (show IxR _ (rIxT K) from ix_tup) (pv 0) pe_int (fun _ _ => rfl)) (pv 3) (fun _ _ => rfl)) pe_int (fun _ _ => rfl)) (pv 1) (nomark _)))) (fun _ _ _ _ _ => (pv 3)))
      (C8.pss_cut (ps_if (pt_cmpR op_eq (pv 1) pe_str (nomark _)) (pss_one (ps_set (i := 2) sc_law_kinds.nd rfl (.inl rfl) (pe_op op_cat (pv 2) (pe_lc (own := [("k", 3)]) (g := gName 3) (tt := tYes) rfl sc_law_kinds.nd (pi_range1 (by rfl) T.z_range (pa_cons (pe_callB call_len_seq (by rfl) T.z_len (by decide +kernel) (pa_cons (pe_ix ix_tup (pv 0) pe_int (fun _ _ => rfl)) pa_nil)) pa_nil)) (blkOk_by (N := ["frame", "kind", "found", "k"]) (sc := defScope s_law_kinds) (by decide +kernel)) (fun _ _ _ _ _ => (pg_name (i := 3) sc_law_kinds.nd rfl (.inl rfl))) (fun _ _ _ _ _ => pts_nil) (fun _ _ _ _ _ => (pe_op op_add pe_int (pv 3))))))) pss_nil)
      (pss_one (ps_ret (pv 2))))), ?_⟩
    obtain ⟨l6, pr⟩ := rows_pairs hp
    have at0 : ∀ H', Same H H' → ∃ a xs u, v = .ref a ∧ SqT K H' a xs ∧ atI xs ((0 : Nat) : Int) = some u ∧ Dp K H' u (.tuple ps) := fun H' s => Dp.item (dv.same s) (i := 0) rfl
    have at1 : ∀ H', Same H H' → ∃ a xs u, v = .ref a ∧ SqT K H' a xs ∧ atI xs ((1 : Nat) : Int) = some u ∧ Dp K H' u (.tuple ss) := fun H' s => Dp.item (dv.same s) (i := 1) rfl
    obtain ⟨a, xs, u, rfl, h1, h2, h3⟩ := at0 H (.refl H)
    obtain ⟨b, ys, rfl, g1, g2⟩ := Dp.tupInv h3
    refine ⟨_, rfl, _, _, _, _, rfl, rfl, h1, h2, ?_⟩
    refine ⟨_, _, rfl, .inr g1, _, rfl, by omega, by have := g2.len; omega, fun D nD => ?_⟩
    refine lc_range (n := (ys.length : Int).toNat) (fun j H' => Same H H' ∧ j ≤ ps.length ∧ H' D = some (.lst ((kindTo ps kind j).map V.int)))
      ⟨same_new5 nD, Nat.zero_le _, upd_same⟩ ?_ ?_
    · rintro j H4 hj ⟨s4, hj2, hD⟩
      have hj3 : j < ps.length := by have := g2.len; omega
      obtain ⟨n1, n2, e1⟩ := pr _ (List.getElem_mem hj3)
      obtain ⟨a2, xs2, u2, q1, q2, q3, q4⟩ := at0 H4 s4
      cases q1
      obtain ⟨a3, xs3, u3, rfl, q6, q7, q8⟩ := Dp.item q4 (i := j) (by rw [List.getElem?_eq_getElem hj3])
      rw [e1] at q8
      obtain ⟨a4, xs4, u4, rfl, q10, q11, q12⟩ := Dp.item q8 (i := 1) rfl
      cases Dp.strInv q12
      refine ⟨rfl, _, rfl, _, _, _, _, rfl, rfl, q2, q3, _, rfl, _, _, _, _, rfl, rfl, q6, (by rw [Int.zero_add]; exact q7), _, _, _, _, rfl, rfl, q10, q11, _, rfl, rfl, _, rfl, ?_⟩
      have st : kindTo ps kind (j + 1) = kindTo ps kind j ++ (if n2 = kind then [Int.ofNat j] else []) := by
        unfold kindTo
        rw [List.range_succ, List.filter_append, List.map_append]
        congr 1
        have e2 : sortOf (ps.getD j .none) = n2 := by rw [List.getD_eq_getElem?_getD, List.getElem?_eq_getElem hj3, e1]; rfl
        by_cases z : n2 = kind
        · rw [if_pos z, List.filter_cons_of_pos (by rw [e2]; exact decide_eq_true z)]; rfl
        · rw [if_neg z, List.filter_cons_of_neg (by rw [e2, decide_eq_false z]; exact Bool.false_ne_true)]; rfl
      have ln : (kindTo ps kind j).length ≤ j := by
        unfold kindTo
        rw [List.length_map]
        exact Nat.le_trans (List.length_filter_le _ _) (by rw [List.length_range]; exact Nat.le_refl _)
      refine ite2 (fun z => ?_) (fun z => ?_)
      · have z' : n2 = kind := by have := of_decide_eq_true z; cases this; rfl
        refine ⟨_, rfl, _, hD, small1000 (by rw [List.length_map]; omega), ?_, by omega, ?_⟩
        · intro b' o' hb
          by_cases eb : b' = D
          · subst eb; rw [nD] at hb; cases hb
          · rw [upd_ne eb]; exact s4 _ _ hb
        · rw [upd_same, st, if_pos z', List.map_append, Int.zero_add]; rfl
      · have z' : ¬ n2 = kind := fun e => z (by rw [e]; exact decide_eq_true rfl)
        refine ⟨s4, by omega, ?_⟩
        rw [st, if_neg z', List.append_nil]; exact hD
    · rintro H4 ⟨s4, _, hD⟩
      have e0 : (ys.length : Int).toNat = ps.length := by have := g2.len; omega
      rw [e0] at hD
      refine ⟨fun σ' H' => ∃ (r : Addr) (y : Option V), σ' = [some (.ref a), some (.str kind), some (.ref r), y] ∧ Same H H' ∧ H r = none ∧ H' r = some (.lst ((kinds ps ss kind).map V.int)), ?_, ?_⟩
      · refine ⟨_, rfl, rfl, _, rfl, ite2 (fun z => ?_) (fun z => ?_)⟩
        · have z' : kind = "buffer" := by have := of_decide_eq_true z; cases this; rfl
          obtain ⟨a2, xs2, u2, q1, q2, q3, q4⟩ := at1 H4 s4
          cases q1
          obtain ⟨b2, ys2, rfl, f1, f2⟩ := Dp.tupInv q4
          have l2 := f2.len
          refine ⟨_, rfl, _, rfl, _, _, _, _, rfl, rfl, q2, q3, ?_⟩
          refine ⟨_, _, rfl, .inr f1, _, rfl, by omega, by omega, fun D2 nD2 => ?_⟩
          have hDD : D2 ≠ D := fun e => by rw [e, hD] at nD2; cases nD2
          refine lc_range (n := (ys2.length : Int).toNat) (fun j H' => Same H4 H' ∧ H' D2 = some (.lst (((List.range j).map (fun k => 6 + Int.ofNat k)).map V.int)))
            ⟨same_new5 nD2, upd_same⟩ ?_ ?_
          · rintro j H5 hj ⟨s5, hD2⟩
            refine ⟨rfl, _, rfl, _, _, rfl, rfl, _, hD2, small1000 (by rw [List.length_map, List.length_map, List.length_range]; omega), ?_, ?_⟩
            · intro b' o' hb
              by_cases eb : b' = D2
              · subst eb; rw [nD2] at hb; cases hb
              · rw [upd_ne eb]; exact s5 _ _ hb
            · rw [upd_same, List.range_succ, List.map_append, List.map_append, Int.zero_add]; rfl
          · rintro H5 ⟨s5, hD2⟩
            have lk : ((kindTo ps kind ps.length).map V.int).length ≤ 6 := by
              unfold kindTo
              rw [List.length_map, List.length_map]
              exact Nat.le_trans (List.length_filter_le _ _) (by rw [List.length_range]; exact l6)
            have e6 : (ys2.length : Int).toNat = ss.length := by omega
            refine ⟨_, _, _, _, rfl, rfl, s5 _ _ hD, hD2, Nat.le_of_lt (small1000 (by simp only [List.length_map, List.length_range] at lk ⊢; omega)), fun t nt => ?_⟩
            refine ⟨t, _, rfl, (s4.trans s5).trans (same_new5 nt), ?_, ?_⟩
            · cases e : H t with
              | none => rfl
              | some o => rw [s5 _ _ (s4 _ _ e)] at nt; cases nt
            · rw [upd_same, e6]
              unfold kinds
              rw [if_pos z', List.map_append, z']
        · have z' : ¬ kind = "buffer" := fun e => z (by rw [e]; exact decide_eq_true rfl)
          refine ⟨D, _, rfl, s4, nD, ?_⟩
          unfold kinds
          rw [if_neg z']
          exact hD
      · rintro σ' H5 ⟨r, y, rfl, s5, nr, hr5⟩
        exact ⟨_, rfl, k r H5 s5 nr hr5⟩
/-! ### instructions -/
def Reg (many i : Int) : Prop := 0 ≤ i ∧ i < many
def folds : List Str := ["add", "min", "max", "and", "or", "xor"]
def unas : List Str := ["neg", "not", "zero"]
def bins : List Str := ["add", "sub", "mul", "div", "rem", "and", "or", "xor", "shl", "shr", "lt", "le", "eq", "ne", "min", "max"]
def specs : List Str := ["tid", "bid", "dim", "grid"]
inductive Ins (many : Int) (ps ss : List PyData) (waits : Int) : PyData → Prop
  | word {d n : Int} : Reg many d → -2147483648 ≤ n → n ≤ 2147483647 → Ins many ps ss waits (.tuple [.str "word", .int d, .int n])
  | param {d k : Int} : Reg many d → k ∈ kinds ps ss "int" → Ins many ps ss waits (.tuple [.str "param", .int d, .int k])
  | special {d : Int} {x : Str} : Reg many d → x ∈ specs → Ins many ps ss waits (.tuple [.str "special", .int d, .str x])
  | copy {d r : Int} : Reg many d → Reg many r → Ins many ps ss waits (.tuple [.str "copy", .int d, .int r])
  | unary {d r : Int} {x : Str} : x ∈ unas → Reg many d → Reg many r → Ins many ps ss waits (.tuple [.str "unary", .str x, .int d, .int r])
  | binary {d r t : Int} {x : Str} : x ∈ bins → Reg many d → Reg many r → Reg many t → Ins many ps ss waits (.tuple [.str "binary", .str x, .int d, .int r, .int t])
  | barrier {n : Int} : waits = 1 → 0 ≤ n → n < 3 → Ins many ps ss waits (.tuple [.str "barrier", .int n])
  | collect {d r n : Int} {x : Str} : waits = 1 → x ∈ folds → Reg many d → Reg many r → 0 ≤ n → n < 3 → Ins many ps ss waits (.tuple [.str "collect", .str x, .int d, .int r, .int n])
  | load {d a r : Int} : Reg many d → a ∈ kinds ps ss "buffer" → Reg many r → Ins many ps ss waits (.tuple [.str "load", .int d, .int a, .int r])
  | store {a r t : Int} : a ∈ kinds ps ss "buffer" → Reg many r → Reg many t → Ins many ps ss waits (.tuple [.str "store", .int a, .int r, .int t])
  | atomic {a r t : Int} {x : Str} : x ∈ folds → a ∈ kinds ps ss "buffer" → Reg many r → Reg many t → Ins many ps ss waits (.tuple [.str "atomic", .str x, .int a, .int r, .int t])
theorem ints_at {K : PySem.W.Frag} {H : Hp} {a : Addr} {ns : List Int} (h : H a = some (.lst (ns.map V.int))) {u : Int} (h0 : 0 ≤ u) (h1 : u < ns.length) : ∃ n, SqL K H a (ns.map V.int) ∧ atI (ns.map V.int) u = some (.int n) ∧ n ∈ ns := by
  obtain ⟨k, rfl⟩ : ∃ k : Nat, u = (k : Int) := ⟨u.toNat, by omega⟩
  have hk : k < ns.length := by omega
  exact ⟨ns[k], SqL.of h, atI_nat (by rw [List.getElem?_map, List.getElem?_eq_getElem hk]; rfl), List.getElem_mem hk⟩
/-- one of the texts of a list of texts -/
theorem mem_strs {xs : List Str} {e : PyData} (h : e ∈ xs.map PyData.str) : ∃ x, e = .str x ∧ x ∈ xs := by
  obtain ⟨x, hx, rfl⟩ := List.mem_map.mp h
  exact ⟨x, rfl, hx⟩
theorem mem_ints {xs : List Int} {e : PyData} (h : e ∈ xs.map PyData.int) : ∃ x, e = .int x ∧ x ∈ xs := by
  obtain ⟨x, hx, rfl⟩ := List.mem_map.mp h
  exact ⟨x, rfl, hx⟩
theorem kinds_len {ps ss : List PyData} (h : FrameOk ps ss) (kind : Str) : (kinds ps ss kind).length ≤ 9 := by
  have l6 := (rows_pairs h.1).1
  have l3 := h.2.1
  have lk : (kindTo ps kind ps.length).length ≤ 6 := by
    unfold kindTo
    rw [List.length_map]
    exact Nat.le_trans (List.length_filter_le _ _) (by rw [List.length_range]; exact l6)
  unfold kinds
  split
  · rw [List.length_append, List.length_map, List.length_range]; omega
  · omega
def sp_law_instruction (K : PySem.W.Frag) : Sp := fun vs H Q _ => ∃ (p q : Addr) (X : Addr → Prop) (many waits : Int) (fv : V) (ps ss : List PyData), vs = [.ref p, .int many, fv, .int waits] ∧ Ext q p X H ∧ 0 < many ∧ many < 1000 ∧ (waits = 0 ∨ waits = 1) ∧
  Dt X K H fv (.tuple [.tuple ps, .tuple ss]) ∧ FrameOk ps ss ∧ ∀ (v : V) H' (d : PyData), Ins many ps ss waits d → But p H H' → Strm q H' p → Dt X K H' v d → Q v H'
set_option hygiene false
local macro_rules | `(tactic| walk_at "wordret") => `(tactic| ((repeat refine iteT ?_); refine ⟨_, rfl, _, rfl, p, q, _, rfl, S.ext, fun n Hc n0 n1 b s => ?_⟩; replace S := S.draw b s; walk_at "obj"; exact k _ _ _ (.word ⟨d0, d1⟩ n0 n1) S.off S.str (Dt.x (S.get (.head _)))))
local macro_rules | `(tactic| walk_at "testC") => `(tactic| (
  refine ⟨_, rfl, _, _, rfl, rfl, _, rfl, ite2 (fun z4 => ⟨_, _, rfl, rfl, _, rfl, ite2 (fun z5 => ?_) (fun z5 => ?_)⟩) (fun z4 => ⟨_, rfl, ?_⟩)⟩
  · refine ⟨_, rfl, _, _, rfl, .inl (SqL.of (S.getL (a := aA) (by walk_at "mem")).1), rfl, _, rfl, ite2 (fun z6 => ?_) (fun z6 => ?_)⟩
    · walk_at "wordret"
    · repeat refine iteF ?_
      refine ⟨rfl, rfl, A1, A2, fun _ _ e => z6 ?_⟩
      rw [lenA (S.getL (a := aA) (by walk_at "mem")).2, e]
      rfl
  · repeat refine iteF ?_
    exact ⟨rfl, rfl, A1, A2, fun _ e => absurd (decide_eq_true e) z5⟩
  · repeat refine iteF ?_
    exact ⟨rfl, rfl, A1, A2, fun e => absurd (decide_eq_true e) z4⟩))
set_option hygiene true
theorem ok_law_instruction (T : Tx w K mg) : FnOk P w K mg base CX0 3 T.a_law_instruction T.d_law_instruction ["stream", "many", "frame", "waits"] (sp_law_instruction K) := by
  refine T.F_law_instruction.ok sc_law_instruction (fun vs H Q E h => ?_) (fun cdv A outer s H vs Q E hr h => ?_)
  · obtain ⟨p, q, X, many, waits, fv, ps, ss, rfl, _⟩ := h
    rfl
  · obtain ⟨p, q, X, many, waits, fv, ps, ss, rfl, hS, m0, m1, hw, df, hF, k⟩ := h
    refine ⟨_, (pss_cons (ps_set (i := 4) sc_law_instruction.nd rfl (.inl rfl) (pe_call (ok_law_draw T) (hr.mono (by decide)) (by rfl) T.g_law_draw T.F_law_draw.kp T.b_law_draw .nil pass0 (pa_cons (pv 0) (pa_cons (pe_op op_add pe_int (pe_op op_mul pe_int (pv 3))) pa_nil))))
      (pss_cons (ps_set (i := 5) sc_law_instruction.nd rfl (.inl rfl) (pe_call (ok_law_draw T) (hr.mono (by decide)) (by rfl) T.g_law_draw T.F_law_draw.kp T.b_law_draw .nil pass0 (pa_cons (pv 0) (pa_cons (pv 1) pa_nil))))
      (pss_cons (ps_set (i := 6) sc_law_instruction.nd rfl (.inl rfl) (pe_call (ok_law_draw T) (hr.mono (by decide)) (by rfl) T.g_law_draw T.F_law_draw.kp T.b_law_draw .nil pass0 (pa_cons (pv 0) (pa_cons (pv 1) pa_nil))))
      (pss_cons (ps_set (i := 7) sc_law_instruction.nd rfl (.inl rfl) (pe_call (ok_law_draw T) (hr.mono (by decide)) (by rfl) T.g_law_draw T.F_law_draw.kp T.b_law_draw .nil pass0 (pa_cons (pv 0) (pa_cons (pv 1) pa_nil))))
      (pss_cons (ps_set (i := 8) sc_law_instruction.nd rfl (.inl rfl) (pe_ix ix_list (pe_lst (pa_cons pe_str (pa_cons pe_str (pa_cons pe_str (pa_cons pe_str (pa_cons pe_str (pa_cons pe_str pa_nil))))))) (pe_call (ok_law_draw T) (hr.mono (by decide)) (by rfl) T.g_law_draw T.F_law_draw.kp T.b_law_draw .nil pass0 (pa_cons (pv 0) (pa_cons pe_int pa_nil))) (fun _ _ => rfl)))
      (pss_cons (ps_set (i := 9) sc_law_instruction.nd rfl (.inl rfl) (pe_call (ok_law_kinds T) (hr.mono (by decide)) (by rfl) T.g_law_kinds T.F_law_kinds.kp T.b_law_kinds .nil pass0 (pa_cons (pv 2) (pa_cons pe_str pa_nil))))
      (pss_cons (ps_set (i := 10) sc_law_instruction.nd rfl (.inl rfl) (pe_call (ok_law_kinds T) (hr.mono (by decide)) (by rfl) T.g_law_kinds T.F_law_kinds.kp T.b_law_kinds .nil pass0 (pa_cons (pv 2) (pa_cons pe_str pa_nil))))
      (C8.pss_cut (ps_if (PW.pt (pw_or (pt_cmpR op_lt (pv 4) pe_int (nomark _)) (pw_or (PW.pt (pw_and (pt_cmpR op_eq (pv 4) pe_int (nomark _)) (pw_and1 (pt_cmpR op_eq (pe_callB call_len_seq (by rfl) T.z_len (by decide +kernel) (pa_cons (pv 9) pa_nil)) pe_int (nomark _))))) (pw_or1 (PW.pt (pw_and (pt_chain op_lt op_lt pe_int (pv 4) pe_int) (pw_and1 (pt_cmpR op_eq (pe_callB call_len_seq (by rfl) T.z_len (by decide +kernel) (pa_cons (pv 10) pa_nil)) pe_int (nomark _))))))))) (pss_one (ps_ret (pe_tup (pa_cons pe_str (pa_cons (pv 5) (pa_cons (pe_call (ok_law_word T) (hr.mono (by decide)) (by rfl) T.g_law_word T.F_law_word.kp T.b_law_word .nil pass0 (pa_cons (pv 0) pa_nil)) pa_nil)))))) pss_nil)
      (pss_cons (ps_if (pt_cmpR op_eq (pv 4) pe_int (nomark _)) (pss_one (ps_ret (pe_tup (pa_cons pe_str (pa_cons (pv 5) (pa_cons (pe_ix ix_list (pv 9) (pe_call (ok_law_draw T) (hr.mono (by decide)) (by rfl) T.g_law_draw T.F_law_draw.kp T.b_law_draw .nil pass0 (pa_cons (pv 0) (pa_cons (pe_callB call_len_seq (by rfl) T.z_len (by decide +kernel) (pa_cons (pv 9) pa_nil)) pa_nil))) (fun _ _ => rfl)) pa_nil)))))) pss_nil)
      (pss_cons (ps_if (pt_cmpR op_eq (pv 4) pe_int (nomark _)) (pss_one (ps_ret (pe_tup (pa_cons pe_str (pa_cons (pv 5) (pa_cons (pe_ix ix_list (pe_lst (pa_cons pe_str (pa_cons pe_str (pa_cons pe_str (pa_cons pe_str pa_nil))))) (pe_call (ok_law_draw T) (hr.mono (by decide)) (by rfl) T.g_law_draw T.F_law_draw.kp T.b_law_draw .nil pass0 (pa_cons (pv 0) (pa_cons pe_int pa_nil))) (fun _ _ => rfl)) pa_nil)))))) pss_nil)
      (pss_cons (ps_if (pt_cmpR op_eq (pv 4) pe_int (nomark _)) (pss_one (ps_ret (pe_tup (pa_cons pe_str (pa_cons (pv 5) (pa_cons (pv 6) pa_nil)))))) pss_nil)
      (pss_cons (ps_if (pt_cmpR op_eq (pv 4) pe_int (nomark _)) (pss_one (ps_ret (pe_tup (pa_cons pe_str (pa_cons (pe_ix ix_list (pe_lst (pa_cons pe_str (pa_cons pe_str (pa_cons pe_str pa_nil)))) (pe_call (ok_law_draw T) (hr.mono (by decide)) (by rfl) T.g_law_draw T.F_law_draw.kp T.b_law_draw .nil pass0 (pa_cons (pv 0) (pa_cons pe_int pa_nil))) (fun _ _ => rfl)) (pa_cons (pv 5) (pa_cons (pv 6) pa_nil))))))) pss_nil)
      (pss_cons (ps_if (pt_cmpR op_lt (pv 4) pe_int (nomark _)) (pss_cons (ps_set (i := 11) sc_law_instruction.nd rfl (.inl rfl) (pe_lst (pa_cons pe_str (pa_cons pe_str (pa_cons pe_str (pa_cons pe_str (pa_cons pe_str (pa_cons pe_str (pa_cons pe_str (pa_cons pe_str (pa_cons pe_str (pa_cons pe_str (pa_cons pe_str (pa_cons pe_str (pa_cons pe_str (pa_cons pe_str (pa_cons pe_str (pa_cons pe_str pa_nil))))))))))))))))))
      (pss_one (ps_ret (pe_tup (pa_cons pe_str (pa_cons (pe_ix ix_list (pv 11) (pe_call (ok_law_draw T) (hr.mono (by decide)) (by rfl) T.g_law_draw T.F_law_draw.kp T.b_law_draw .nil pass0 (pa_cons (pv 0) (pa_cons pe_int pa_nil))) (fun _ _ => rfl)) (pa_cons (pv 5) (pa_cons (pv 6) (pa_cons (pv 7) pa_nil))))))))) pss_nil)
      (pss_cons (ps_if (pt_cmpR op_eq (pv 4) pe_int (nomark _)) (pss_one (ps_ret (pe_tup (pa_cons pe_str (pa_cons (pe_call (ok_law_draw T) (hr.mono (by decide)) (by rfl) T.g_law_draw T.F_law_draw.kp T.b_law_draw .nil pass0 (pa_cons (pv 0) (pa_cons pe_int pa_nil))) pa_nil))))) pss_nil)
      (pss_cons (ps_if (pt_cmpR op_eq (pv 4) pe_int (nomark _)) (pss_one (ps_ret (pe_tup (pa_cons pe_str (pa_cons (pv 8) (pa_cons (pv 5) (pa_cons (pv 6) (pa_cons (pe_call (ok_law_draw T) (hr.mono (by decide)) (by rfl) T.g_law_draw T.F_law_draw.kp T.b_law_draw .nil pass0 (pa_cons (pv 0) (pa_cons pe_int pa_nil))) pa_nil)))))))) pss_nil)
      (pss_cons (ps_set (i := 12) sc_law_instruction.nd rfl (.inl rfl) (pe_ix ix_list (pv 10) (pe_call (ok_law_draw T) (hr.mono (by decide)) (by rfl) T.g_law_draw T.F_law_draw.kp T.b_law_draw .nil pass0 (pa_cons (pv 0) (pa_cons (pe_callB call_len_seq (by rfl) T.z_len (by decide +kernel) (pa_cons (pv 10) pa_nil)) pa_nil))) (fun _ _ => rfl)))
      (pss_one (ps_ret (pe_ix ix_list (pe_lst (pa_cons (pe_tup (pa_cons pe_str (pa_cons (pv 5) (pa_cons (pv 12) (pa_cons (pv 6) pa_nil))))) (pa_cons (pe_tup (pa_cons pe_str (pa_cons (pv 12) (pa_cons (pv 6) (pa_cons (pv 7) pa_nil))))) (pa_cons (pe_tup (pa_cons pe_str (pa_cons (pv 12) (pa_cons (pv 6) (pa_cons (pv 7) pa_nil))))) (pa_cons (pe_tup (pa_cons pe_str (pa_cons (pv 8) (pa_cons (pv 12) (pa_cons (pv 6) (pa_cons (pv 7) pa_nil)))))) pa_nil))))) (pe_op op_sub (pv 4) pe_int) (fun _ _ => rfl)))))))))))))))))))), ?_⟩
    have S := (St.begin (K := K) hS).put (Dt.m df)
    refine ⟨_, rfl, _, rfl, _, _, rfl, rfl, .inl ⟨by decide, by decide⟩, _, _, rfl, rfl, ?_⟩
    walk_at "draw"
    refine ⟨_, rfl, _, rfl, ?_⟩
    walk_at "draw"
    rename_i pick _ pk0 pk1
    refine ⟨_, rfl, _, rfl, ?_⟩
    walk_at "draw"
    rename_i d _ d0 d1
    refine ⟨_, rfl, _, rfl, ?_⟩
    walk_at "draw"
    rename_i r _ r0 r1
    walk_at "go"
    walk_at "draw"
    rename_i t0 _ t0' t1 _
    walk_at "pick"
    obtain ⟨fo, rfl, hfo⟩ := mem_strs (xs := folds) h4
    cases Dt.strInv (S.get (.head _))
    clear h4
    refine ⟨_, rfl, _, _, ps, ss, rfl, (S.get (by walk_at "mem")).dp, hF, fun iA Hc s n e => ?_⟩
    replace S := S.ints s n e
    clear s n e
    refine ⟨_, rfl, _, _, ps, ss, rfl, (S.get (by walk_at "mem")).dp, hF, fun aA Hc s n e => ?_⟩
    replace S := S.ints s n e
    clear s n e
    have lenI : ∀ {H' : Hp} {xs : List V}, DtAll (Mm X []) K H' xs ((kinds ps ss "int").map PyData.int) → xs.length = (kinds ps ss "int").length := fun h => by rw [h.len, List.length_map]
    have lenA : ∀ {H' : Hp} {xs : List V}, DtAll (Mm X []) K H' xs ((kinds ps ss "buffer").map PyData.int) → xs.length = (kinds ps ss "buffer").length := fun h => by rw [h.len, List.length_map]
    refine ⟨fun σ' H' => σ' = [some (.ref p), some (.int many), some fv, some (.int waits), some (.int pick), some (.int d), some (.int r), some (.int t0), some (.str fo), some (.ref iA), some (.ref aA), none, none] ∧ H' = Hc ∧ ¬ pick < 3 ∧ (pick = 3 → kinds ps ss "int" ≠ []) ∧ (9 < pick → pick < 14 → kinds ps ss "buffer" ≠ []), ?_, ?_⟩
    · refine ⟨_, rfl, _, _, rfl, rfl, _, rfl, ite2 (fun z => ?_) (fun z => ?_)⟩
      · walk_at "wordret"
      · have A1 : ¬ pick < 3 := fun e => z (decide_eq_true e)
        refine ⟨_, rfl, rfl, _, rfl, ite2 (fun z => ?_) (fun z => ?_)⟩
        · refine ⟨_, rfl, _, _, rfl, .inl (SqL.of (S.getL (a := iA) (by walk_at "mem")).1), rfl, _, rfl, ite2 (fun z => ?_) (fun z => ?_)⟩
          · walk_at "wordret"
          · repeat refine iteF ?_
            have A2 : pick = 3 → kinds ps ss "int" ≠ [] := fun _ e => z (by
              rw [lenI (S.getL (a := iA) (by walk_at "mem")).2, e]
              rfl)
            walk_at "testC"
        · have A2 : pick = 3 → kinds ps ss "int" ≠ [] := fun e => absurd (by rw [e]; rfl) z
          repeat refine iteF ?_
          walk_at "testC"
    · rintro σ' H' ⟨rfl, rfl, z1, z2, z3⟩
      have l9 := kinds_len hF "int"
      have a9 := kinds_len hF "buffer"
      have eI := lenI (S.getL (a := iA) (by walk_at "mem")).2
      have eA := lenA (S.getL (a := aA) (by walk_at "mem")).2
      have eq3 : ∀ {n : Int}, decide (V.int pick = V.int n) = true → pick = n := fun h => by have := of_decide_eq_true h; cases this; rfl
      have ne3 : ∀ {n : Int}, ¬ decide (V.int pick = V.int n) = true → pick ≠ n := fun h e => h (by rw [e]; exact decide_eq_true rfl)
      refine ⟨_, rfl, rfl, _, rfl, ite2 (fun z => ?_) (fun z => ?_)⟩
      · have hp : 0 < (kinds ps ss "int").length := List.length_pos_iff.mpr (z2 (eq3 z))
        refine ⟨_, rfl, _, rfl, _, rfl, _, rfl, _, _, rfl, .inl (SqL.of (S.getL (a := iA) (by walk_at "mem")).1), _, _, _, rfl, S.str, (by rw [eI]; omega), (by rw [eI]; omega), fun u Hc u0 u1 b s => ?_⟩
        rw [eI] at u1
        replace S := S.draw b s
        clear b s
        obtain ⟨v, e, h2, h3, h4, h5⟩ := DtAll.pick (S.getL (a := iA) (by walk_at "mem")).2 u0 (by rw [List.length_map]; exact u1)
        obtain ⟨x, rfl, hx⟩ := mem_ints h4
        cases Dt.intInv h5
        refine ⟨_, _, _, _, rfl, rfl, SqL.of (S.getL (a := iA) (by walk_at "mem")).1, h2, ?_⟩
        walk_at "go"
        exact k _ _ _ (.param ⟨d0, d1⟩ hx) S.off S.str (Dt.x (S.get (.head _)))
      have n3 := ne3 z
      refine ⟨_, rfl, rfl, _, rfl, ite2 (fun z => ?_) (fun z => ?_)⟩
      · walk_at "go"
        walk_at "draw"
        walk_at "pick"
        obtain ⟨x, rfl, hx⟩ := mem_strs (xs := specs) h4
        cases Dt.strInv (S.get (.head _))
        walk_at "go"
        exact k _ _ _ (.special ⟨d0, d1⟩ hx) S.off S.str (Dt.x (S.get (.head _)))
      have n4 := ne3 z
      refine ⟨_, rfl, rfl, _, rfl, ite2 (fun z => ?_) (fun z => ?_)⟩
      · walk_at "go"
        exact k _ _ _ (.copy ⟨d0, d1⟩ ⟨r0, r1⟩) S.off S.str (Dt.x (S.get (.head _)))
      have n5 := ne3 z
      refine ⟨_, rfl, rfl, _, rfl, ite2 (fun z => ?_) (fun z => ?_)⟩
      · walk_at "go"
        walk_at "draw"
        walk_at "pick"
        obtain ⟨x, rfl, hx⟩ := mem_strs (xs := unas) h4
        cases Dt.strInv (S.get (.head _))
        walk_at "go"
        exact k _ _ _ (.unary hx ⟨d0, d1⟩ ⟨r0, r1⟩) S.off S.str (Dt.x (S.get (.head _)))
      have n6 := ne3 z
      refine ⟨_, rfl, _, _, rfl, rfl, _, rfl, ite2 (fun z => ?_) (fun z => ?_)⟩
      · walk_at "go"
        walk_at "draw"
        walk_at "pick"
        obtain ⟨x, rfl, hx⟩ := mem_strs (xs := bins) h4
        cases Dt.strInv (S.get (.head _))
        walk_at "go"
        exact k _ _ _ (.binary hx ⟨d0, d1⟩ ⟨r0, r1⟩ ⟨t0', t1⟩) S.off S.str (Dt.x (S.get (.head _)))
      have n10 : ¬ pick < 10 := fun e => z (decide_eq_true e)
      refine ⟨_, rfl, rfl, _, rfl, ite2 (fun z => ?_) (fun z => ?_)⟩
      · have w1 : waits = 1 := by have := eq3 z; omega
        walk_at "go"
        walk_at "draw"
        walk_at "go"
        exact k _ _ _ (.barrier w1 u0 u1) S.off S.str (Dt.x (S.get (.head _)))
      have n14 := ne3 z
      refine ⟨_, rfl, rfl, _, rfl, ite2 (fun z => ?_) (fun z => ?_)⟩
      · have w1 : waits = 1 := by have := eq3 z; omega
        walk_at "go"
        walk_at "draw"
        walk_at "go"
        exact k _ _ _ (.collect w1 hfo ⟨d0, d1⟩ ⟨r0, r1⟩ u0 u1) S.off S.str (Dt.x (S.get (.head _)))
      have n15 := ne3 z
      have hp : 0 < (kinds ps ss "buffer").length := List.length_pos_iff.mpr (z3 (by omega) (by omega))
      refine ⟨_, rfl, _, rfl, _, rfl, _, _, rfl, .inl (SqL.of (S.getL (a := aA) (by walk_at "mem")).1), ?_⟩
      refine ⟨_, _, _, rfl, S.str, (by rw [eA]; omega), (by rw [eA]; omega), fun u Hc u0 u1 b s => ?_⟩
      rw [eA] at u1
      replace S := S.draw b s
      clear b s
      obtain ⟨v, e, h2, h3, h4, h5⟩ := DtAll.pick (S.getL (a := aA) (by walk_at "mem")).2 u0 (by rw [List.length_map]; exact u1)
      obtain ⟨x, rfl, hx⟩ := mem_ints h4
      cases Dt.intInv h5
      refine ⟨_, _, _, _, rfl, rfl, SqL.of (S.getL (a := aA) (by walk_at "mem")).1, h2, ?_⟩
      clear h2 h3 h4 h5
      walk_at "go"
      refine ⟨_, _, rfl, rfl, ?_⟩
      obtain ⟨v, e, h2, h3, h4, h5⟩ := DtAll.pick (S.getL (a := t) (by walk_at "mem")).2 (u := pick - 10) (by omega) (by show pick - 10 < 4; omega)
      refine ⟨_, _, _, _, rfl, rfl, SqL.of (S.getL (a := t) (by walk_at "mem")).1, h2, ?_⟩
      simp only [List.mem_cons, List.not_mem_nil, or_false] at h4
      refine k _ _ e ?_ S.off S.str (Dt.x h5)
      rcases h4 with rfl | rfl | rfl | rfl
      · exact .load ⟨d0, d1⟩ hx ⟨r0, r1⟩
      · exact .store hx ⟨r0, r1⟩ ⟨t0', t1⟩
      · exact .store hx ⟨r0, r1⟩ ⟨t0', t1⟩
      · exact .atomic hfo hx ⟨r0, r1⟩ ⟨t0', t1⟩
/-! ### lists of lists of numbers -/
structure Rows (H : Hp) (R : Addr) (rs : List Addr) (xss : List (List Int)) : Prop where
  top : H R = some (.lst (rs.map V.ref))
  nd : (R :: rs).Nodup
  len : rs.length = xss.length
  row : ∀ (k : Nat) (r : Addr) (xs : List Int), rs[k]? = some r → xss[k]? = some xs → H r = some (.lst (xs.map V.int))
section
variable {K : PySem.W.Frag} {q p : Addr} {ma : List Addr} {H0 H H' : Hp} {ps : List (V × PyData)} {ls : List (Addr × List PyData)} {R : Addr} {rs : List Addr} {xss : List (List Int)}
theorem Rows.keep (W : Rows H R rs xss) (h : ∀ b ∈ R :: rs, ∀ o, H b = some o → H' b = some o) : Rows H' R rs xss :=
  ⟨h R (.head _) _ W.top, W.nd, W.len, fun k r xs e1 e2 => h r (.tail _ (List.mem_of_getElem? e1)) _ (W.row k r xs e1 e2)⟩
theorem Rows.same (W : Rows H R rs xss) (s : Same H H') : Rows H' R rs xss := W.keep fun b _ o e => s b o e
theorem Rows.but (W : Rows H R rs xss) (b : But p H H') (n : p ∉ R :: rs) : Rows H' R rs xss := W.keep fun c m o e => b c o (fun z => n (z ▸ m)) e
theorem Rows.chg (W : Rows H R rs xss) {t : Addr} {o : HO} (n : t ∉ R :: rs) : Rows (L2.upd H t o) R rs xss := W.keep fun c m u e => by
  have z : c ≠ t := fun z => n (by rw [← z]; exact m)
  rw [upd_ne z]
  exact e
theorem Rows.nil {R : Addr} (h : H R = some (.lst [])) : Rows H R [] [] := ⟨h, by simp, rfl, fun k r xs e _ => by simp at e⟩
/-- one more row -/
theorem Rows.push (W : Rows H R rs xss) {t : Addr} {xs : List Int} (n : H t = none) : Rows (L2.upd (L2.upd H t (.lst (xs.map V.int))) R (.lst (rs.map V.ref ++ [.ref t]))) R (rs ++ [t]) (xss ++ [xs]) := by
  have tR : t ≠ R := fun e => by rw [e, W.top] at n; cases n
  have nd := List.nodup_cons.mp W.nd
  have tr : t ∉ rs := fun m => by
    obtain ⟨k, hk, e⟩ := List.getElem_of_mem m
    have hk2 : k < xss.length := by rw [← W.len]; exact hk
    have := W.row k t xss[k] (by rw [List.getElem?_eq_getElem hk, e]) (List.getElem?_eq_getElem hk2)
    rw [n] at this
    cases this
  refine ⟨by rw [upd_same, List.map_append]; rfl, ?_, by rw [List.length_append, List.length_append, W.len]; rfl, fun k r ys e1 e2 => ?_⟩
  · refine List.nodup_cons.mpr ⟨fun m => ?_, ?_⟩
    · rcases List.mem_append.mp m with m | m
      · exact nd.1 m
      · exact tR (List.mem_singleton.mp m).symm
    · refine List.nodup_append.mpr ⟨nd.2, by simp, fun a ha b hb e => ?_⟩
      rw [List.mem_singleton.mp hb] at e
      exact tr (e ▸ ha)
  · have rR : ∀ {k : Nat} {r : Addr}, rs[k]? = some r → r ≠ R := fun e z => nd.1 (z ▸ List.mem_of_getElem? e)
    by_cases hk : k < rs.length
    · rw [List.getElem?_append_left hk] at e1
      rw [List.getElem?_append_left (by rw [← W.len]; exact hk)] at e2
      have rt : r ≠ t := fun z => tr (by rw [← z]; exact List.mem_of_getElem? e1)
      rw [upd_ne (rR e1), upd_ne rt]
      exact W.row k r ys e1 e2
    · rw [List.getElem?_append_right (by omega)] at e1
      rw [List.getElem?_append_right (by rw [← W.len]; omega)] at e2
      have h0 : k - rs.length = 0 := by
        have := (List.getElem?_eq_some_iff.mp e1).1
        simp at this
        omega
      rw [h0] at e1
      rw [← W.len, h0] at e2
      cases e1
      cases e2
      rw [upd_ne tR, upd_same]
/-- a row that a call has made -/
theorem Rows.push' (W : Rows H R rs xss) {t : Addr} {xs : List Int} (s : Same H H') (n : H t = none) (h : H' t = some (.lst (xs.map V.int))) : Rows (L2.upd H' R (.lst (rs.map V.ref ++ [.ref t]))) R (rs ++ [t]) (xss ++ [xs]) := by
  have W' := W.same s
  have tR : t ≠ R := fun e => by rw [e, W.top] at n; cases n
  have P := W.push (xs := xs) n
  refine ⟨by rw [upd_same, List.map_append]; rfl, P.nd, P.len, fun k r ys e1 e2 => ?_⟩
  have rR : r ≠ R := fun z => (List.nodup_cons.mp P.nd).1 (by rw [← z]; exact List.mem_of_getElem? e1)
  rw [upd_ne rR]
  have q := P.row k r ys e1 e2
  rw [upd_ne rR] at q
  by_cases z : r = t
  · rw [z, upd_same] at q
    rw [z, h]
    exact q
  · rw [upd_ne z] at q
    exact s _ _ q
/-- a number is put behind a row -/
theorem Rows.app (W : Rows H R rs xss) {k : Nat} {r : Addr} {xs : List Int} {v : Int} (e1 : rs[k]? = some r) (e2 : xss[k]? = some xs) : Rows (L2.upd H r (.lst (xs.map V.int ++ [.int v]))) R rs (xss.set k (xs ++ [v])) := by
  have nd := List.nodup_cons.mp W.nd
  have rR : R ≠ r := fun z => nd.1 (z ▸ List.mem_of_getElem? e1)
  refine ⟨by rw [upd_ne rR]; exact W.top, W.nd, by rw [List.length_set]; exact W.len, fun j t ys f1 f2 => ?_⟩
  have hk := (List.getElem?_eq_some_iff.mp e2).1
  by_cases hj : j = k
  · subst hj
    rw [e1] at f1
    cases f1
    rw [List.getElem?_set_self hk] at f2
    cases f2
    rw [upd_same, List.map_append]
    rfl
  · have tr : t ≠ r := fun z => by
      subst z
      exact hj ((List.getElem?_inj (List.getElem?_eq_some_iff.mp f1).1 nd.2).mp (f1.trans e1.symm))
    rw [List.getElem?_set_ne (fun z => hj z.symm)] at f2
    rw [upd_ne tr]
    exact W.row j t ys f1 f2
theorem Rows.at (W : Rows H R rs xss) {k : Nat} {xs : List Int} (e : xss[k]? = some xs) : ∃ r, rs[k]? = some r ∧ SqL K H R (rs.map V.ref) ∧ atI (rs.map V.ref) (k : Int) = some (.ref r) ∧ H r = some (.lst (xs.map V.int)) := by
  have hk : k < rs.length := by rw [W.len]; exact (List.getElem?_eq_some_iff.mp e).1
  exact ⟨rs[k], List.getElem?_eq_getElem hk, SqL.of W.top, atI_nat (by rw [List.getElem?_map, List.getElem?_eq_getElem hk]; rfl), W.row k _ _ (List.getElem?_eq_getElem hk) e⟩
/-- read as data, where nothing changes them -/
theorem Rows.data (W : Rows H R rs xss) {M : Addr → Prop} (h : ∀ b ∈ R :: rs, ¬ M b) : Dt M K H (.ref R) (.list (xss.map fun xs => .list (xs.map PyData.int))) := by
  have go : ∀ (rs : List Addr) (xss : List (List Int)), rs.length = xss.length → (∀ b ∈ rs, ¬ M b) → (∀ (k : Nat) (r : Addr) (xs : List Int), rs[k]? = some r → xss[k]? = some xs → H r = some (.lst (xs.map V.int))) →
      DtAll M K H (rs.map V.ref) (xss.map fun xs => .list (xs.map PyData.int)) := by
    intro rs
    induction rs with
    | nil => intro xss hl _ _; cases xss with
      | nil => exact .nil
      | cons x r => cases hl
    | cons r rs ih => intro xss hl hm hr; cases xss with
      | nil => cases hl
      | cons x xss =>
        exact .cons (.laidL (hm r (.head _)) (hr 0 r x rfl rfl) (DtAll.ints x)) (ih xss (Nat.succ.inj hl) (fun b hb => hm b (.tail _ hb)) fun k a ys f1 f2 => hr (k + 1) a ys f1 f2)
  exact .laidL (h R (.head _)) W.top (go rs xss W.len (fun b hb => h b (.tail _ hb)) W.row)
end
/-! ### ends -/
inductive EndOk (count many : Int) : PyData → Prop
  | exit : EndOk count many (.tuple [.str "exit"])
  | jump {k : Int} : 1 ≤ k → k < count → EndOk count many (.tuple [.str "jump", .int k])
  | branch {r k m : Int} : Reg many r → 1 ≤ k → k < count → 1 ≤ m → m < count → EndOk count many (.tuple [.str "branch", .int r, .int k, .int m])
def tgts : PyData → List Int
  | .tuple [.str x, .int k] => if x = "jump" then [k] else []
  | .tuple [.str x, .int _, .int k, .int m] => if x = "branch" then (if k = m then [k] else [k, m]) else []
  | _ => []
theorem tgts_jump (k : Int) : tgts (.tuple [.str "jump", .int k]) = [k] := by
  show (if ("jump" : Str) = "jump" then [k] else []) = [k]
  rw [if_pos rfl]
theorem tgts_branch (r k m : Int) : tgts (.tuple [.str "branch", .int r, .int k, .int m]) = if k = m then [k] else [k, m] := by
  show (if ("branch" : Str) = "branch" then (if k = m then [k] else [k, m]) else []) = _
  rw [if_pos rfl]
theorem mem_branch (r k m : Int) : k ∈ tgts (.tuple [.str "branch", .int r, .int k, .int m]) ∧ m ∈ tgts (.tuple [.str "branch", .int r, .int k, .int m]) := by
  rw [tgts_branch]
  by_cases h : k = m
  · rw [if_pos h, h]; simp
  · rw [if_neg h]; simp
def EndsOk (count many : Int) (es : List PyData) : Prop := (es.length : Int) = count ∧ (∀ e ∈ es, EndOk count many e) ∧ ∀ m : Nat, 1 ≤ m → (m : Int) < count → ∃ (k : Nat) (e : PyData), k < m ∧ es[k]? = some e ∧ (m : Int) ∈ tgts e
def sp_law_ends (K : PySem.W.Frag) : Sp := fun vs H Q _ => ∃ (p q : Addr) (X : Addr → Prop) (count many : Int), vs = [.ref p, .int count, .int many] ∧ Ext q p X H ∧ 0 < many ∧ many < 1000 ∧ 1 ≤ count ∧ count ≤ 100 ∧
  ∀ r H' (es : List PyData), EndsOk count many es → But p H H' → Strm q H' p → Dt X K H' (.ref r) (.list es) → Q (.ref r) H'
/-- the rows while they grow: node n is the next one -/
structure Tree (count : Int) (n : Nat) (xss : List (List Int)) : Prop where
  len : (xss.length : Int) = count
  two : ∀ xs ∈ xss, xs.length ≤ 2
  sum : (xss.map List.length).sum + 1 = n
  late : ∀ (k : Nat) (xs : List Int), n ≤ k + 1 → xss[k]? = some xs → xs = []
  good : ∀ xs ∈ xss, ∀ x ∈ xs, 1 ≤ x ∧ x < count
  all : ∀ m : Nat, 1 ≤ m → m < n → ∃ (k : Nat) (xs : List Int), k < m ∧ xss[k]? = some xs ∧ (m : Int) ∈ xs
def freeTo (xss : List (List Int)) (j : Nat) : List Int := ((List.range j).filter fun k => decide ((xss.getD k []).length < 2)).map Int.ofNat
theorem sum_take (xss : List (List Int)) (n : Nat) (h : ∀ (k : Nat) (xs : List Int), n ≤ k → xss[k]? = some xs → xs = []) : (xss.map List.length).sum = ((xss.take n).map List.length).sum := by
  induction xss generalizing n with
  | nil => simp
  | cons x r ih =>
    cases n with
    | zero =>
      have e : ∀ (l : List (List Int)), (∀ (k : Nat) (xs : List Int), l[k]? = some xs → xs = []) → (l.map List.length).sum = 0 := by
        intro l
        induction l with
        | nil => intro _; rfl
        | cons y l il =>
          intro hl
          have hy : y = [] := hl 0 y rfl
          rw [List.map_cons, List.sum_cons, hy, il fun k xs e => hl (k + 1) xs e]
          rfl
      rw [e _ fun k xs e => h k xs (Nat.zero_le _) e]
      rfl
    | succ n =>
      rw [List.take_succ_cons, List.map_cons, List.map_cons, List.sum_cons, List.sum_cons, ih n fun k xs hk e => h (k + 1) xs (by omega) e]
theorem sum_ge : ∀ (l : List (List Int)), (∀ xs ∈ l, 2 ≤ xs.length) → 2 * l.length ≤ (l.map List.length).sum
  | [], _ => Nat.le_refl _
  | x :: r, h => by
    have a := h x (.head _)
    have b := sum_ge r fun xs m => h xs (.tail _ m)
    rw [List.map_cons, List.sum_cons, List.length_cons]
    omega
/-- some row ahead of n has room -/
theorem Tree.free {count : Int} {n : Nat} {xss : List (List Int)} (T : Tree count n xss) (h1 : 1 ≤ n) (hn : (n : Int) < count) : freeTo xss n ≠ [] := by
  intro e
  have hl : n ≤ xss.length := by have := T.len; omega
  have big : ∀ k, k < n → 2 ≤ (xss.getD k []).length := by
    intro k hk
    apply Nat.le_of_not_lt
    intro hlt
    have m : Int.ofNat k ∈ freeTo xss n := List.mem_map.mpr ⟨k, List.mem_filter.mpr ⟨List.mem_range.mpr hk, decide_eq_true hlt⟩, rfl⟩
    rw [e] at m
    cases m
  have g := sum_ge (xss.take n) fun xs m => by
    obtain ⟨k, hk, rfl⟩ := List.getElem_of_mem m
    rw [List.length_take] at hk
    have := big k (by omega)
    rw [List.getD_eq_getElem?_getD, List.getElem?_eq_getElem (by omega)] at this
    rw [List.getElem_take]
    exact this
  have s := T.sum
  rw [sum_take xss n fun k xs hk e => T.late k xs (by omega) e] at s
  rw [List.length_take] at g
  omega
theorem freeTo_mem {xss : List (List Int)} {n : Nat} {x : Int} (h : x ∈ freeTo xss n) : ∃ k : Nat, x = (k : Int) ∧ k < n ∧ (xss.getD k []).length < 2 := by
  obtain ⟨k, hk, rfl⟩ := List.mem_map.mp h
  have := List.mem_filter.mp hk
  exact ⟨k, rfl, List.mem_range.mp this.1, of_decide_eq_true this.2⟩
theorem sum_set : ∀ (l : List (List Int)) (k : Nat) (xs : List Int) (v : Int), l[k]? = some xs → ((l.set k (xs ++ [v])).map List.length).sum = (l.map List.length).sum + 1
  | [], _, _, _, e => by simp at e
  | x :: r, 0, xs, v, e => by
    cases e
    rw [List.set_cons_zero, List.map_cons, List.map_cons, List.sum_cons, List.sum_cons, List.length_append]
    show _ + 1 + _ = _
    omega
  | x :: r, k + 1, xs, v, e => by
    rw [List.set_cons_succ, List.map_cons, List.map_cons, List.sum_cons, List.sum_cons, sum_set r k xs v e]
    omega
theorem Tree.next {count : Int} {n k : Nat} {xss : List (List Int)} {xs : List Int} (T : Tree count n xss) (h1 : 1 ≤ n) (hn : (n : Int) < count) (hk : k < n) (e : xss[k]? = some xs) (h2 : xs.length < 2) : Tree count (n + 1) (xss.set k (xs ++ [(n : Int)])) := by
  have hkl := (List.getElem?_eq_some_iff.mp e).1
  have mem : ∀ ys ∈ xss.set k (xs ++ [(n : Int)]), ys ∈ xss ∨ ys = xs ++ [(n : Int)] := fun ys m => List.mem_or_eq_of_mem_set m
  refine ⟨by rw [List.length_set]; exact T.len, fun ys m => ?_, ?_, fun j ys hj f => ?_, fun ys m x hx => ?_, fun m m1 mn => ?_⟩
  · rcases mem ys m with m | rfl
    · exact T.two ys m
    · rw [List.length_append]; show _ + 1 ≤ 2; omega
  · rw [sum_set xss k xs _ e]
    have := T.sum
    omega
  · rw [List.getElem?_set_ne (by omega)] at f
    exact T.late j ys (by omega) f
  · rcases mem ys m with m | rfl
    · exact T.good ys m x hx
    · rcases List.mem_append.mp hx with hx | hx
      · exact T.good xs (List.mem_of_getElem? e) x hx
      · rw [List.mem_singleton.mp hx]; omega
  · by_cases z : m = n
    · subst z
      exact ⟨k, _, hk, by rw [List.getElem?_set_self hkl], by simp⟩
    · obtain ⟨j, ys, hj, f, g⟩ := T.all m m1 (by omega)
      by_cases jk : j = k
      · subst jk
        rw [e] at f
        cases f
        exact ⟨j, _, hj, by rw [List.getElem?_set_self hkl], by simp [g]⟩
      · exact ⟨j, ys, hj, by rw [List.getElem?_set_ne (fun z => jk z.symm)]; exact f, g⟩
theorem Tree.start (c : Nat) : Tree (c : Int) 1 (List.replicate c []) := by
  refine ⟨by rw [List.length_replicate], fun xs m => ?_, ?_, fun k xs _ e => ?_, fun xs m x hx => ?_, fun m h1 h2 => by omega⟩
  · rw [(List.mem_replicate.mp m).2]; exact Nat.zero_le _
  · have : ∀ c : Nat, ((List.replicate c ([] : List Int)).map List.length).sum = 0 := by
      intro c
      induction c with
      | zero => rfl
      | succ c ih => rw [List.replicate_succ, List.map_cons, List.sum_cons, ih]; rfl
    rw [this]
  · exact (List.mem_replicate.mp (List.mem_of_getElem? e)).2
  · rw [(List.mem_replicate.mp m).2] at hx; cases hx
theorem Rows.new {H : Hp} {R : Addr} {rs : List Addr} {xss : List (List Int)} (W : Rows H R rs xss) {t : Addr} (n : H t = none) : t ∉ R :: rs := fun m => by
  rcases List.mem_cons.mp m with m | m
  · rw [m, W.top] at n; cases n
  · obtain ⟨k, hk, e⟩ := List.getElem_of_mem m
    have hk2 : k < xss.length := by rw [← W.len]; exact hk
    have := W.row k t xss[k] (by rw [List.getElem?_eq_getElem hk, e]) (List.getElem?_eq_getElem hk2)
    rw [n] at this
    cases this
theorem freeTo_step {xss : List (List Int)} {j : Nat} {xs : List Int} (e : xss[j]? = some xs) : freeTo xss (j + 1) = freeTo xss j ++ (if xs.length < 2 then [Int.ofNat j] else []) := by
  unfold freeTo
  rw [List.range_succ, List.filter_append, List.map_append]
  congr 1
  have e2 : xss.getD j [] = xs := by rw [List.getD_eq_getElem?_getD, e]; rfl
  by_cases z : xs.length < 2
  · rw [if_pos z, List.filter_cons_of_pos (by rw [e2]; exact decide_eq_true z)]; rfl
  · rw [if_neg z, List.filter_cons_of_neg (by rw [e2, decide_eq_false z]; exact Bool.false_ne_true)]; rfl
theorem freeTo_len (xss : List (List Int)) (j : Nat) : (freeTo xss j).length ≤ j := by
  unfold freeTo
  rw [List.length_map]
  exact Nat.le_trans (List.length_filter_le _ _) (by rw [List.length_range]; exact Nat.le_refl _)
theorem Rows.upd' {H H' : Hp} {R : Addr} {rs : List Addr} {xss : List (List Int)} {t : Addr} {o : HO} (W : Rows H R rs xss) (n : H t = none) (e : L2.upd H t o = H') : Rows H' R rs xss := e ▸ W.same (same_new5 n)
set_option hygiene false
local macro_rules | `(tactic| walk_at "lenk") => `(tactic| (obtain ⟨rr, w1, w2, w3, w4⟩ := W.at e1; refine ⟨_, rfl, _, rfl, _, _, _, _, rfl, rfl, w2, (by rw [Int.zero_add]; exact w3), _, _, rfl, .inl (SqL.of w4), rfl, _, rfl, ?_⟩; clear w1 w2 w3 w4))
local macro_rules | `(tactic| walk_at "rowk") => `(tactic| (obtain ⟨rr, w1, w2, w3, w4⟩ := W.at e1; refine ⟨_, _, _, _, rfl, rfl, w2, (by rw [Int.zero_add]; exact w3), _, _, _, _, rfl, rfl, SqL.of w4, rfl, ?_⟩; clear w1 w2 w3 w4))
local macro_rules | `(tactic| walk_at "objW") => `(tactic| (refine ⟨by walk_at "size", fun t n => ?_⟩; generalize hx : L2.upd _ t _ = Hc; replace W := Rows.upd' W n hx; (first | replace S := S.tup' n hx (by walk_at "has") | replace S := S.lst' n hx (by walk_at "has")); clear n hx))
local macro_rules | `(tactic| walk_at "goW") => `(tactic| repeat (first | refine ⟨_, rfl, ?_⟩ | walk_at "objW" | walk_at "rowk"))
local macro_rules | `(tactic| walk_at "drawW") => `(tactic| (refine ⟨_, _, _, rfl, S.str, (by first | decide | omega), (by first | decide | omega), fun u Hc u0 u1 b s => ?_⟩; replace S := S.draw b s; replace W := W.but b pR; clear b s))
local macro_rules | `(tactic| walk_at "put") => `(tactic| (obtain ⟨acc, a1, a2, b1, b2, b3, b4, b5⟩ := fin _ _ _ _ _ W S (by walk_at "mem") (S.get (.head _)) (by assumption) (by assumption); exact ⟨_, _, _, rfl, rfl, a1, a2, _, _, _, _, rfl, b1, by omega, b2, b3, b4, b5⟩))
local macro_rules | `(tactic| walk_at "found") => `(tactic| (refine ⟨_, rfl, .inl ⟨rfl, _, SqL.of (S.getL (a := F) (by walk_at "mem")).1⟩, ?_⟩))
set_option hygiene true
theorem ok_law_ends (T : Tx w K mg) : FnOk P w K mg base CX0 2 T.a_law_ends T.d_law_ends ["stream", "count", "many"] (sp_law_ends K) := by
  refine T.F_law_ends.ok sc_law_ends (fun vs H Q E h => ?_) (fun cdv A outer s H vs Q E hr h => ?_)
  · obtain ⟨p, q, X, count, many, rfl, _⟩ := h
    rfl
  · obtain ⟨p, q, X, count, many, rfl, hS, m0, m1, c1, c2, k⟩ := h
    refine ⟨_, (pss_cons (ps_set (i := 4) sc_law_ends.nd rfl (.inr rfl) (pe_lc (own := [("k", 3)]) (g := gName 3) (tt := tYes) rfl sc_law_ends.nd (pi_range1 (by rfl) T.z_range (pa_cons (pv 1) pa_nil)) (blkOk_by (N := ["stream", "count", "many", "k", "rows", "node", "free", "found", "more", "r"]) (sc := defScope s_law_ends) (by decide +kernel)) (fun _ _ _ _ _ => (pg_name (i := 3) sc_law_ends.nd rfl (.inl rfl))) (fun _ _ _ _ _ => pts_nil) (fun _ _ _ _ _ => (pe_lst pa_nil))))
      (pss_cons (ps_for PassesOwn.never rfl (pi_range2 (by rfl) T.z_range (pa_cons pe_int (pa_cons (pv 1) pa_nil))) (pg_name (i := 5) sc_law_ends.nd rfl (.inl rfl)) (pss_cons (ps_setLc (i := 6) (own := [("k", 3)]) (g := gName 3)  rfl sc_law_ends.nd rfl rfl (sw_true rfl rfl rfl (by decide +kernel)) (pi_range1 (by rfl) T.z_range (pa_cons (pv 5) pa_nil)) (blkOk_by (N := ["stream", "count", "many", "k", "rows", "node", "free", "found", "more", "r"]) (sc := defScope s_law_ends) (by decide +kernel)) (fun _ _ _ _ _ => (pg_name (i := 3) sc_law_ends.nd rfl (.inl rfl))) (fun _ _ _ _ _ => (pts_one (pt_cmpR op_lt (pe_callB (show CallR _ _ (rLenS K) from call_len_seq) (by rfl) T.z_len (by decide +kernel) (pa_cons (pe_ix (show IxR _ (rIxL K) from ix_list) (pv 4) (pv 3) (fun _ _ => rfl)) pa_nil)) pe_int (nomark _)))) (fun _ _ _ _ _ => (pv 3)))
      (pss_one (ps_expr (pe_bm PySem.F.plainAttrs_list PySem.F.slot_list_append PySem.F.type_list_append mt_append (pe_ix ix_list (pv 4) (pe_ix ix_list (pv 6) (pe_call (ok_law_draw T) (hr.mono (by decide)) (by rfl) T.g_law_draw T.F_law_draw.kp T.b_law_draw .nil pass0 (pa_cons (pv 0) (pa_cons (pe_callB call_len_seq (by rfl) T.z_len (by decide +kernel) (pa_cons (pv 6) pa_nil)) pa_nil))) (fun _ _ => rfl)) (fun _ _ => rfl)) (pa_cons (pv 5) pa_nil))))))
      (pss_cons (ps_set (i := 7) sc_law_ends.nd rfl (.inl rfl) (pe_lst pa_nil))
      (pss_cons (ps_for PassesOwn.never rfl (pi_range1 (by rfl) T.z_range (pa_cons (pv 1) pa_nil)) (pg_name (i := 3) sc_law_ends.nd rfl (.inl rfl)) (pss_cons (ps_set (i := 8) sc_law_ends.nd rfl (.inl rfl) (pe_op op_add (pe_call (ok_law_draw T) (hr.mono (by decide)) (by rfl) T.g_law_draw T.F_law_draw.kp T.b_law_draw .nil pass0 (pa_cons (pv 0) (pa_cons (pe_callB (call_max2 rfl) (by rfl) T.z_max (by decide +kernel) (pa_cons pe_int (pa_cons (pe_op op_sub (pv 1) pe_int) pa_nil))) pa_nil))) pe_int))
      (pss_cons (ps_set (i := 9) sc_law_ends.nd rfl (.inl rfl) (pe_call (ok_law_draw T) (hr.mono (by decide)) (by rfl) T.g_law_draw T.F_law_draw.kp T.b_law_draw .nil pass0 (pa_cons (pv 0) (pa_cons (pv 2) pa_nil))))
      (pss_one (ps_if (PW.pt (pw_and (pt_cmpR op_eq (pe_callB call_len_seq (by rfl) T.z_len (by decide +kernel) (pa_cons (pe_ix ix_list (pv 4) (pv 3) (fun _ _ => rfl)) pa_nil)) pe_int (nomark _)) (pw_and1 (PW.pt (pw_or (pt_cmpR op_eq (pv 1) pe_int (nomark _)) (pw_or1 (pt_cmpR op_gt (pe_call (ok_law_draw T) (hr.mono (by decide)) (by rfl) T.g_law_draw T.F_law_draw.kp T.b_law_draw .nil pass0 (pa_cons (pv 0) (pa_cons pe_int pa_nil))) pe_int (nomark _)))))))) (pss_one (ps_expr (pe_bm PySem.F.plainAttrs_list PySem.F.slot_list_append PySem.F.type_list_append mt_append (pv 7) (pa_cons (pe_tup (pa_cons pe_str pa_nil)) pa_nil)))) (pss_one (ps_if (pt_cmpR op_eq (pe_callB call_len_seq (by rfl) T.z_len (by decide +kernel) (pa_cons (pe_ix ix_list (pv 4) (pv 3) (fun _ _ => rfl)) pa_nil)) pe_int (nomark _)) (pss_one (ps_expr (pe_bm PySem.F.plainAttrs_list PySem.F.slot_list_append PySem.F.type_list_append mt_append (pv 7) (pa_cons (pe_ix ix_list (pe_lst (pa_cons (pe_tup (pa_cons pe_str (pa_cons (pv 8) pa_nil))) (pa_cons (pe_tup (pa_cons pe_str (pa_cons (pv 9) (pa_cons (pv 8) (pa_cons (pe_op op_add pe_int (pe_call (ok_law_draw T) (hr.mono (by decide)) (by rfl) T.g_law_draw T.F_law_draw.kp T.b_law_draw .nil pass0 (pa_cons (pv 0) (pa_cons (pe_op op_sub (pv 1) pe_int) pa_nil)))) pa_nil))))) pa_nil))) (pe_call (ok_law_draw T) (hr.mono (by decide)) (by rfl) T.g_law_draw T.F_law_draw.kp T.b_law_draw .nil pass0 (pa_cons (pv 0) (pa_cons pe_int pa_nil))) (fun _ _ => rfl)) pa_nil)))) (pss_one (ps_if (PW.pt (pw_and (pt_cmpR op_eq (pe_callB call_len_seq (by rfl) T.z_len (by decide +kernel) (pa_cons (pe_ix ix_list (pv 4) (pv 3) (fun _ _ => rfl)) pa_nil)) pe_int (nomark _)) (pw_and1 (pt_cmpR op_eq (pe_call (ok_law_draw T) (hr.mono (by decide)) (by rfl) T.g_law_draw T.F_law_draw.kp T.b_law_draw .nil pass0 (pa_cons (pv 0) (pa_cons pe_int pa_nil))) pe_int (nomark _))))) (pss_one (ps_expr (pe_bm PySem.F.plainAttrs_list PySem.F.slot_list_append PySem.F.type_list_append mt_append (pv 7) (pa_cons (pe_tup (pa_cons pe_str (pa_cons (pe_ix ix_list (pe_ix ix_list (pv 4) (pv 3) (fun _ _ => rfl)) pe_int (fun _ _ => rfl)) pa_nil))) pa_nil)))) (pss_one (ps_if (pt_cmpR op_eq (pe_callB call_len_seq (by rfl) T.z_len (by decide +kernel) (pa_cons (pe_ix ix_list (pv 4) (pv 3) (fun _ _ => rfl)) pa_nil)) pe_int (nomark _)) (pss_one (ps_expr (pe_bm PySem.F.plainAttrs_list PySem.F.slot_list_append PySem.F.type_list_append mt_append (pv 7) (pa_cons (pe_ix ix_list (pe_lst (pa_cons (pe_tup (pa_cons pe_str (pa_cons (pv 9) (pa_cons (pe_ix ix_list (pe_ix ix_list (pv 4) (pv 3) (fun _ _ => rfl)) pe_int (fun _ _ => rfl)) (pa_cons (pv 8) pa_nil))))) (pa_cons (pe_tup (pa_cons pe_str (pa_cons (pv 9) (pa_cons (pv 8) (pa_cons (pe_ix ix_list (pe_ix ix_list (pv 4) (pv 3) (fun _ _ => rfl)) pe_int (fun _ _ => rfl)) pa_nil))))) pa_nil))) (pe_call (ok_law_draw T) (hr.mono (by decide)) (by rfl) T.g_law_draw T.F_law_draw.kp T.b_law_draw .nil pass0 (pa_cons (pv 0) (pa_cons pe_int pa_nil))) (fun _ _ => rfl)) pa_nil)))) (pss_one (ps_expr (pe_bm PySem.F.plainAttrs_list PySem.F.slot_list_append PySem.F.type_list_append mt_append (pv 7) (pa_cons (pe_tup (pa_cons pe_str (pa_cons (pv 9) (pa_cons (pe_ix ix_list (pe_ix ix_list (pv 4) (pv 3) (fun _ _ => rfl)) pe_int (fun _ _ => rfl)) (pa_cons (pe_ix ix_list (pe_ix ix_list (pv 4) (pv 3) (fun _ _ => rfl)) pe_int (fun _ _ => rfl)) pa_nil))))) pa_nil)))))))))))))))
      (pss_one (ps_ret (pv 7))))))), ?_⟩
    have S := St.begin (K := K) hS
    obtain ⟨c, rfl⟩ : ∃ c : Nat, count = (c : Int) := ⟨count.toNat, by omega⟩
    refine ⟨_, rfl, _, rfl, by omega, by omega, fun R nR => ?_⟩
    refine lc_range (n := (c : Int).toNat) (fun j H' => j ≤ c ∧ ∃ rs ma, Rows H' R rs (List.replicate j []) ∧ (∀ b ∈ R :: rs, b ∈ ma) ∧ St K q p X ma H H' [] [])
      ⟨Nat.zero_le _, [], [R], .nil upd_same, (fun b h => h), S.own' nR (same_new5 nR) (by rw [upd_same]; intro z; cases z)⟩ ?_ ?_
    · rintro j H4 hj ⟨hj2, rs, ma, W, hm, S⟩
      have hl : rs.length = j := by rw [W.len, List.length_replicate]
      refine ⟨rfl, Nat.zero_le _, fun t nt => ⟨rs.map V.ref, (same_new5 nt) _ _ W.top, small1000 (by rw [List.length_map]; omega), by omega, rs ++ [t], t :: ma, ?_, fun b hb => ?_, ?_⟩⟩
      · rw [List.replicate_succ']
        exact W.push (xs := []) nt
      · rcases List.mem_cons.mp hb with hb | hb
        · exact .tail _ (hm b (hb ▸ .head _))
        · rcases List.mem_append.mp hb with hb | hb
          · exact .tail _ (hm b (.tail _ hb))
          · rw [List.mem_singleton.mp hb]; exact .head _
      · exact (S.own' nt (same_new5 nt) (by rw [upd_same]; intro z; cases z)).chg (.tail _ (hm R (.head _))) (by simp)
    · rintro H4 ⟨_, rs, ma, W, hm, S⟩
      refine ⟨_, rfl, 1, (c : Int), rfl, ⟨by decide, by decide, by omega, by omega⟩, ?_⟩
      have ec : ((c : Int)).toNat = c := by omega
      rw [ec] at W
      refine for_range (lo := 1) (n := ((c : Int) - 1).toNat) (fun i σ H' => ∃ (yn yf : Option V) (xss : List (List Int)), σ = [some (.ref p), some (.int c), some (.int many), none, some (.ref R), yn, yf, none, none, none] ∧ Tree c (i + 1) xss ∧ Rows H' R rs xss ∧ St K q p X ma H H' [] [])
        ⟨none, none, _, rfl, Tree.start c, W, S⟩ ?_ ?_
      · rintro i σ H5 hi ⟨yn, yf, xss, rfl, Tr, W, S⟩
        have hin : ((i + 1 : Nat) : Int) < c := by omega
        have lenX := Tr.len
        refine ⟨_, rfl, _, rfl, by omega, by omega, fun D nD => ?_⟩
        refine lc_range (n := (1 + (i : Int)).toNat) (fun j H' => Same H5 H' ∧ j ≤ i + 1 ∧ H' D = some (.lst ((freeTo xss j).map V.int)))
          ⟨same_new5 nD, Nat.zero_le _, upd_same⟩ ?_ ?_
        · rintro j H6 hj ⟨s6, hj2, hD⟩
          have hjx : j < xss.length := by omega
          obtain ⟨r, e1, e2, e3, e4⟩ := (W.same s6).at (List.getElem?_eq_getElem hjx)
          have st := freeTo_step (List.getElem?_eq_getElem hjx)
          have ln := freeTo_len xss j
          refine ⟨rfl, _, rfl, _, rfl, _, _, _, _, rfl, rfl, e2, (by rw [Int.zero_add]; exact e3), _, _, rfl, .inl (SqL.of e4), _, _, rfl, rfl, _, rfl, ite2 (fun z => ?_) (fun z => ?_)⟩
          · have z' : xss[j].length < 2 := by have := of_decide_eq_true z; rw [List.length_map] at this; omega
            refine ⟨_, rfl, _, hD, small1000 (by rw [List.length_map]; omega), ?_, by omega, ?_⟩
            · intro b' o' hb
              by_cases eb : b' = D
              · subst eb; rw [nD] at hb; cases hb
              · rw [upd_ne eb]; exact s6 _ _ hb
            · rw [upd_same, st, if_pos z', List.map_append, Int.zero_add]; rfl
          · have z' : ¬ xss[j].length < 2 := fun h => z (decide_eq_true (by rw [List.length_map]; omega))
            refine ⟨s6, by omega, ?_⟩
            rw [st, if_neg z', List.append_nil]; exact hD
        · rintro H6 ⟨s6, _, hD⟩
          have en : (1 + (i : Int)).toNat = i + 1 := by omega
          rw [en] at hD
          have fr := Tr.free (by omega) hin
          have fl := freeTo_len xss (i + 1)
          have fp : 0 < (freeTo xss (i + 1)).length := List.length_pos_iff.mpr fr
          have W6 := W.same s6
          have S6 := S.ints s6 nD hD
          refine ⟨_, rfl, _, rfl, _, rfl, _, rfl, _, _, rfl, .inl (SqL.of hD), _, _, _, rfl, S6.str, (by rw [List.length_map]; omega), (by rw [List.length_map]; omega), fun u H7 u0 u1 b s => ?_⟩
          rw [List.length_map] at u1
          have pR : p ∉ R :: rs := fun m => S6.p0 ((S6.own p (hm p m)).1)
          have hD7 : H7 D = some (.lst ((freeTo xss (i + 1)).map V.int)) := b _ _ (fun z => S.hp (z ▸ nD)) hD
          obtain ⟨x, h1, h2, h3⟩ := ints_at hD7 u0 (by omega)
          obtain ⟨j, rfl, hj, hj2⟩ := freeTo_mem h3
          have hjx : j < xss.length := by omega
          rw [List.getD_eq_getElem?_getD, List.getElem?_eq_getElem hjx] at hj2
          have W7 := W6.but b pR
          obtain ⟨r, e1, e2, e3, e4⟩ := W7.at (List.getElem?_eq_getElem hjx)
          refine ⟨_, _, _, _, rfl, rfl, h1, h2, _, _, _, _, rfl, rfl, e2, e3, .inl ⟨rfl, _, SqL.of e4⟩, ?_⟩
          have S7 := (S6.draw b s).bare
          refine ⟨_, rfl, _, _, _, rfl, rfl, e4, small1000 (by rw [List.length_map]; exact Nat.le_trans (Tr.two _ (List.getElem_mem hjx)) (by decide)), _, _, _, rfl, Tr.next (by omega) hin (by omega) (List.getElem?_eq_getElem hjx) hj2, ?_, ?_⟩
          · have := W7.app (v := ((i + 1 : Nat) : Int)) e1 (List.getElem?_eq_getElem hjx)
            rw [show (1 + (i : Int)) = ((i + 1 : Nat) : Int) by omega]
            exact this
          · exact S7.chg (hm r (.tail _ (List.mem_of_getElem? e1))) (by simp)
      · rintro σ H5 ⟨yn, yf, xss, rfl, Tr, W, S⟩
        have ec2 : ((c : Int) - 1).toNat + 1 = c := by omega
        rw [ec2] at Tr
        have lenX := Tr.len
        refine ⟨Nat.zero_le _, fun F nF => ?_⟩
        have S6 := S.mut' (xs := []) nF rfl .nil
        have W6 := W.same (same_new5 (o := .lst []) nF)
        have nFR := W.new nF
        have pR : p ∉ R :: rs := fun m => S.p0 ((S.own p (hm p m)).1)
        refine ⟨_, rfl, c, rfl, by omega, by omega, ?_⟩
        refine for_range (n := (c : Int).toNat) (fun i σ H' => ∃ (yk ym yr : Option V) (es : List PyData), σ = [some (.ref p), some (.int c), some (.int many), yk, some (.ref R), yn, yf, some (.ref F), ym, yr] ∧ es.length = i ∧ i ≤ c ∧ (∀ e ∈ es, EndOk c many e) ∧
            (∀ (j : Nat) (e : PyData) (xs : List Int), es[j]? = some e → xss[j]? = some xs → ∀ x ∈ xs, x ∈ tgts e) ∧ Rows H' R rs xss ∧ St K q p X (F :: ma) H H' [] [(F, es)])
          ⟨none, none, none, [], rfl, rfl, Nat.zero_le _, (fun e m => by cases m), (fun j e xs h => by simp at h), W6, S6⟩ ?_ ?_
        · rintro i σ H7 hi ⟨yk, ym, yr, es, rfl, hes, hic, hok, htg, W, S⟩
          have hix : i < xss.length := by omega
          have e1 := List.getElem?_eq_getElem hix
          have x2 := Tr.two _ (List.getElem_mem hix)
          have xg := Tr.good _ (List.getElem_mem hix)
          generalize xss[i] = xs at e1 x2 xg
          refine ⟨_, rfl, _, rfl, _, _, rfl, rfl, _, _, rfl, ?_⟩
          refine ⟨_, _, _, rfl, S.str, (by split <;> omega), (by split <;> omega), fun u Hc u0 u1 b s => ?_⟩
          replace W := W.but b pR
          replace S := S.draw b s
          clear b s
          refine ⟨_, _, rfl, rfl, ?_⟩
          have more1 : 1 ≤ u + 1 := by omega
          have more2 : 2 ≤ (c : Int) → u + 1 < c := fun h => by split at u1 <;> omega
          refine ⟨_, rfl, _, rfl, ?_⟩
          refine ⟨_, _, _, rfl, S.str, (by omega), (by omega), fun r Hc r0 r1 b s => ?_⟩
          replace W := W.but b pR
          replace S := S.draw b s
          clear b s
          -- the end of each way: an end is put behind the others
          have fin : ∀ (Hx : Hp) (ps : List (V × PyData)) (ls : List (Addr × List PyData)) (v : V) (e : PyData), Rows Hx R rs xss → St K q p X (F :: ma) H Hx ps ls → (F, es) ∈ ls → Dt (Mm X (F :: ma)) K Hx v e → EndOk c many e → (∀ x ∈ xs, x ∈ tgts e) →
              ∃ acc, Hx F = some (.lst acc) ∧ acc.length < sizeLine ∧ (es ++ [e]).length = i + 1 ∧ (∀ d ∈ es ++ [e], EndOk c many d) ∧ (∀ (j : Nat) (d : PyData) (ys : List Int), (es ++ [e])[j]? = some d → xss[j]? = some ys → ∀ x ∈ ys, x ∈ tgts d) ∧
                Rows (L2.upd Hx F (.lst (acc ++ [v]))) R rs xss ∧ St K q p X (F :: ma) H (L2.upd Hx F (.lst (acc ++ [v]))) [] [(F, es ++ [e])] := by
            intro Hx ps ls v e Wx Sx hF he ok tg
            have S1 : St K q p X (F :: ma) H Hx [] [(F, es)] := Sx.sub (fun _ h => by cases h) (List.singleton_sublist.mpr hF)
            obtain ⟨acc, a1, a2, S2⟩ := S1.snoc (.head _) he (by omega)
            refine ⟨acc, a1, a2, by rw [List.length_append, hes]; rfl, fun d hd => ?_, fun j d ys f1 f2 => ?_, Wx.chg nFR, S2⟩
            · rcases List.mem_append.mp hd with hd | hd
              · exact hok d hd
              · rw [List.mem_singleton.mp hd]; exact ok
            · by_cases hj : j < es.length
              · rw [List.getElem?_append_left hj] at f1
                exact htg j d ys f1 f2
              · rw [List.getElem?_append_right (by omega)] at f1
                obtain rfl : j = i := by
                  have := (List.getElem?_eq_some_iff.mp f1).1
                  simp at this
                  omega
                rw [hes, Nat.sub_self] at f1
                cases f1
                rw [e1] at f2
                cases f2
                exact tg
          rcases xs with _ | ⟨x1, _ | ⟨y2, xs⟩⟩
          · -- no row
            have ok : EndOk c many (.tuple [.str "exit"]) := .exit
            have tg : ∀ x ∈ ([] : List Int), x ∈ tgts (.tuple [.str "exit"]) := fun x h => by cases h
            walk_at "lenk"
            refine ite2 (fun z => ?_) (fun z => absurd rfl z)
            refine ⟨_, rfl, rfl, _, rfl, ite2 (fun z => ?_) (fun z => ?_)⟩
            · refine iteT ?_
              walk_at "found"
              walk_at "objW"
              walk_at "put"
            · have c2' : 2 ≤ (c : Int) := by
                have : ¬ (c : Int) = 1 := fun e => z (by rw [e]; rfl)
                omega
              refine ⟨_, rfl, ?_⟩
              walk_at "drawW"
              refine ⟨_, _, rfl, rfl, _, rfl, ite2 (fun z => ?_) (fun z => ?_)⟩
              · repeat refine iteT ?_
                walk_at "found"
                walk_at "objW"
                walk_at "put"
              · repeat refine iteF ?_
                walk_at "lenk"
                refine ite2 (fun z => ?_) (fun z => absurd rfl z)
                walk_at "found"
                walk_at "goW"
                refine ⟨_, _, rfl, rfl, ?_⟩
                walk_at "drawW"
                rename_i uu _ uu0 uu1
                refine ⟨_, _, rfl, rfl, ?_⟩
                have mb : 1 ≤ 1 + u ∧ 1 + u < c := by omega
                walk_at "goW"
                walk_at "drawW"
                walk_at "pick"
                simp only [List.mem_cons, List.not_mem_nil, or_false] at h4
                have ok : EndOk c many e := by
                  rcases h4 with rfl | rfl
                  · exact .jump more1 (more2 c2')
                  · exact .branch ⟨r0, r1⟩ more1 (more2 c2') mb.1 mb.2
                have tg : ∀ x ∈ ([] : List Int), x ∈ tgts e := fun x h => by cases h
                walk_at "put"
          · -- one row
            have gx := xg x1 (.head _)
            have c2' : 2 ≤ (c : Int) := by omega
            walk_at "lenk"
            refine ite2 (fun z => by have := of_decide_eq_true z; simp at this) (fun z => ?_)
            repeat refine iteF ?_
            walk_at "lenk"
            refine ite2 (fun z => by have := of_decide_eq_true z; simp at this) (fun z => ?_)
            repeat refine iteF ?_
            walk_at "lenk"
            refine ite2 (fun z => ?_) (fun z => absurd rfl z)
            refine ⟨_, rfl, ?_⟩
            walk_at "drawW"
            refine ⟨rfl, _, rfl, ite2 (fun z => ?_) (fun z => ?_)⟩
            · repeat refine iteT ?_
              have ok : EndOk c many (.tuple [.str "jump", .int x1]) := .jump gx.1 gx.2
              have tg : ∀ x ∈ [x1], x ∈ tgts (.tuple [.str "jump", .int x1]) := fun x h => by rw [tgts_jump]; exact h
              walk_at "found"
              walk_at "goW"
              walk_at "put"
            · repeat refine iteF ?_
              walk_at "lenk"
              refine ite2 (fun z => ?_) (fun z => absurd rfl z)
              walk_at "found"
              walk_at "goW"
              walk_at "drawW"
              walk_at "pick"
              simp only [List.mem_cons, List.not_mem_nil, or_false] at h4
              have ok : EndOk c many e := by
                rcases h4 with rfl | rfl
                · exact .branch ⟨r0, r1⟩ gx.1 gx.2 more1 (more2 c2')
                · exact .branch ⟨r0, r1⟩ more1 (more2 c2') gx.1 gx.2
              have tg : ∀ x ∈ [x1], x ∈ tgts e := fun x h => by
                rw [List.mem_singleton.mp h]
                rcases h4 with rfl | rfl
                · exact (mem_branch _ _ _).1
                · exact (mem_branch _ _ _).2
              walk_at "put"
          · -- two rows
            obtain rfl : xs = [] := by
              cases xs with
              | nil => rfl
              | cons y ys => simp at x2
            have gx := xg x1 (.head _)
            have gy := xg y2 (.tail _ (.head _))
            walk_at "lenk"
            refine ite2 (fun z => by have := of_decide_eq_true z; simp at this) (fun z => ?_)
            repeat refine iteF ?_
            walk_at "lenk"
            refine ite2 (fun z => by have := of_decide_eq_true z; simp at this) (fun z => ?_)
            repeat refine iteF ?_
            walk_at "lenk"
            refine ite2 (fun z => by have := of_decide_eq_true z; simp at this) (fun z => ?_)
            repeat refine iteF ?_
            walk_at "lenk"
            refine ite2 (fun z => by have := of_decide_eq_true z; simp at this) (fun z => ?_)
            repeat refine iteF ?_
            have ok : EndOk c many (.tuple [.str "branch", .int r, .int x1, .int y2]) := .branch ⟨r0, r1⟩ gx.1 gx.2 gy.1 gy.2
            have tg : ∀ x ∈ [x1, y2], x ∈ tgts (.tuple [.str "branch", .int r, .int x1, .int y2]) := fun x h => by
              rcases List.mem_cons.mp h with rfl | h
              · exact (mem_branch _ _ _).1
              · rw [List.mem_singleton.mp h]; exact (mem_branch _ _ _).2
            walk_at "found"
            walk_at "goW"
            walk_at "put"
        · rintro σ H7 ⟨yk, ym, yr, es, rfl, hes, hic, hok, htg, W, S⟩
          refine ⟨_, rfl, k F H7 es ⟨by omega, hok, fun m h1 h2 => ?_⟩ S.off S.str (Dt.x ((S.calm (mb := []) (fun _ h => by cases h)).list (.head _) (by simp)))⟩
          obtain ⟨j, xs, hj, f1, f2⟩ := Tr.all m h1 (by omega)
          have hje : j < es.length := by omega
          exact ⟨j, es[j], hj, List.getElem?_eq_getElem hje, htg j _ xs (List.getElem?_eq_getElem hje) f1 _ f2⟩
/-! ### flow graphs -/
def NodeOk (many : Int) (ps ss : List PyData) (waits : Int) (e d : PyData) : Prop := ∃ is, d = .tuple [.tuple is, e] ∧ is.length ≤ 5 ∧ ∀ i ∈ is, Ins many ps ss waits i
structure Flow (most waits : Int) (ps ss : List PyData) (many : Int) (nodes es : List PyData) : Prop where
  frame : FrameOk ps ss
  m2 : 2 ≤ many
  m6 : many ≤ 6
  len : nodes.length = es.length
  most : (nodes.length : Int) ≤ most
  pos : 1 ≤ nodes.length
  ends : EndsOk nodes.length many es
  node : ∀ (i : Nat) (d e : PyData), nodes[i]? = some d → es[i]? = some e → NodeOk many ps ss waits e d
def flowD (ps ss : List PyData) (many : Int) (nodes : List PyData) : PyData := .tuple [.tuple ps, .tuple ss, .int many, .tuple nodes]
def sp_law_flow (K : PySem.W.Frag) : Sp := fun vs H Q _ => ∃ (p q : Addr) (X : Addr → Prop) (most waits : Int), vs = [.ref p, .int most, .int waits] ∧ Ext q p X H ∧ 1 ≤ most ∧ most ≤ 99 ∧ (waits = 0 ∨ waits = 1) ∧
  ∀ (v : V) H' (ps ss : List PyData) (many : Int) (nodes es : List PyData), Flow most waits ps ss many nodes es → But p H H' → Strm q H' p → Dt X K H' v (flowD ps ss many nodes) → Q v H'
theorem ok_law_flow (T : Tx w K mg) : FnOk P w K mg base CX0 4 T.a_law_flow T.d_law_flow ["stream", "most", "waits"] (sp_law_flow K) := by
  refine T.F_law_flow.ok sc_law_flow (fun vs H Q E h => ?_) (fun cdv A outer s H vs Q E hr h => ?_)
  · obtain ⟨p, q, X, most, waits, rfl, _⟩ := h
    rfl
  · obtain ⟨p, q, X, most, waits, rfl, hS, c1, c2, hw, k⟩ := h
    refine ⟨_, (pss_cons (ps_set (i := 3) sc_law_flow.nd rfl (.inr rfl) (pe_op op_add pe_int (pe_call (ok_law_draw T) (hr.mono (by decide)) (by rfl) T.g_law_draw T.F_law_draw.kp T.b_law_draw .nil pass0 (pa_cons (pv 0) (pa_cons pe_int pa_nil)))))
      (pss_cons (ps_set (i := 4) sc_law_flow.nd rfl (.inr rfl) (pe_call (ok_law_frame T) (hr.mono (by decide)) (by rfl) T.g_law_frame T.F_law_frame.kp T.b_law_frame .nil pass0 (pa_cons (pv 0) pa_nil)))
      (pss_cons (ps_set (i := 5) sc_law_flow.nd rfl (.inl rfl) (pe_op op_add pe_int (pe_call (ok_law_draw T) (hr.mono (by decide)) (by rfl) T.g_law_draw T.F_law_draw.kp T.b_law_draw .nil pass0 (pa_cons (pv 0) (pa_cons (pv 1) pa_nil)))))
      (pss_cons (ps_set (i := 6) sc_law_flow.nd rfl (.inl rfl) (pe_call (ok_law_ends T) (hr.mono (by decide)) (by rfl) T.g_law_ends T.F_law_ends.kp T.b_law_ends .nil pass0 (pa_cons (pv 0) (pa_cons (pv 5) (pa_cons (pv 3) pa_nil)))))
      (pss_cons (ps_set (i := 7) sc_law_flow.nd rfl (.inl rfl) (pe_lst pa_nil))
      (pss_cons (ps_for PassesOwn.never rfl (pi_range1 (by rfl) T.z_range (pa_cons (pv 5) pa_nil)) (pg_name (i := 8) sc_law_flow.nd rfl (.inl rfl)) (pss_cons (ps_setLc (i := 9) (own := [("j", 10)]) (g := gName 10) (tt := tYes) rfl sc_law_flow.nd rfl rfl (sw_true rfl rfl rfl (by decide +kernel)) (pi_range1 (by rfl) T.z_range (pa_cons (pe_call (ok_law_draw T) (hr.mono (by decide)) (by rfl) T.g_law_draw T.F_law_draw.kp T.b_law_draw .nil pass0 (pa_cons (pv 0) (pa_cons pe_int pa_nil))) pa_nil)) (blkOk_by (N := ["stream", "most", "waits", "many", "frame", "count", "ends", "nodes", "k", "rows", "j"]) (sc := defScope s_law_flow) (by decide +kernel)) (fun _ _ _ _ _ => (pg_name (i := 10) sc_law_flow.nd rfl (.inl rfl))) (fun _ _ _ _ _ => pts_nil) (fun _ _ _ _ _ => (pe_call (ok_law_instruction T) (hr.mono (by decide)) (by rfl) T.g_law_instruction T.F_law_instruction.kp T.b_law_instruction .nil pass0 (pa_cons (pv 0) (pa_cons (pv 3) (pa_cons (pv 4) (pa_cons (pv 2) pa_nil)))))))
      (pss_one (ps_expr (pe_bm PySem.F.plainAttrs_list PySem.F.slot_list_append PySem.F.type_list_append mt_append (pv 7) (pa_cons (pe_tup (pa_cons (pe_callTy call_tuple_of (by rfl) T.z_tuple (by decide +kernel) (pa_cons (pv 9) pa_nil)) (pa_cons (pe_ix ix_list (pv 6) (pv 8) (fun _ _ => rfl)) pa_nil))) pa_nil))))))
      (pss_one (ps_ret (pe_tup (pa_cons (pe_ix ix_tup (pv 4) pe_int (fun _ _ => rfl)) (pa_cons (pe_ix ix_tup (pv 4) pe_int (fun _ _ => rfl)) (pa_cons (pv 3) (pa_cons (pe_callTy call_tuple_of (by rfl) T.z_tuple (by decide +kernel) (pa_cons (pv 7) pa_nil)) pa_nil))))))))))))), ?_⟩
    have S := St.begin (K := K) hS
    refine ⟨_, rfl, ?_⟩
    walk_at "draw"
    refine ⟨_, _, rfl, rfl, _, rfl, p, q, _, rfl, S.ext, fun fv Hc ps ss hF b s df => ?_⟩
    replace S := (S.draw b s).put df
    clear b s df
    have m2 : 2 ≤ 2 + u := by omega
    have m6 : 2 + u ≤ 6 := by omega
    refine ⟨_, rfl, _, rfl, ?_⟩
    walk_at "draw"
    rename_i um _ _ _ _
    refine ⟨_, _, rfl, rfl, _, rfl, _, rfl, _, rfl, p, q, _, _, _, rfl, S.ext, by omega, by omega, by omega, by omega, fun eA Hc es hE b s de => ?_⟩
    replace S := (S.draw b s).put de
    clear b s de
    obtain ⟨c, hc⟩ : ∃ c : Nat, 1 + u = (c : Int) := ⟨(1 + u).toNat, by omega⟩
    rw [hc] at hE
    have cm : (c : Int) ≤ most := by omega
    have c1' : 1 ≤ c := by omega
    refine ⟨Nat.zero_le _, fun N nN => ?_⟩
    replace S := S.mut' (xs := []) nN rfl .nil
    refine ⟨_, rfl, 1 + u, rfl, by omega, by omega, ?_⟩
    have hce := hE.1
    refine for_range (n := (1 + u).toNat) (fun i σ H' => ∃ (yk yr : Option V) (ds : List PyData), σ = [some (.ref p), some (.int most), some (.int waits), some (.int (2 + um)), some fv, some (.int (1 + u)), some (.ref eA), some (.ref N), yk, yr, none] ∧ ds.length = i ∧ i ≤ c ∧
        (∀ (j : Nat) (d e : PyData), ds[j]? = some d → es[j]? = some e → NodeOk (2 + um) ps ss waits e d) ∧ St K q p X [N] H H' [(.ref eA, .list es), (fv, .tuple [.tuple ps, .tuple ss])] [(N, ds)])
      ⟨none, none, [], rfl, rfl, Nat.zero_le _, (fun j d e h => by simp at h), S⟩ ?_ ?_
    · rintro i σ H4 hi ⟨yk, yr, ds, rfl, hds, hic, hno, S⟩
      refine ⟨_, rfl, ?_⟩
      walk_at "draw"
      refine ⟨u, rfl, by omega, by omega, fun D nD => ?_⟩
      replace S := S.mut' (xs := []) nD rfl .nil
      have l5 : u.toNat ≤ 5 := by omega
      generalize u.toNat = un at l5
      refine lc_range (n := un) (fun j H' => ∃ is, is.length = j ∧ j ≤ 5 ∧ (∀ x ∈ is, Ins (2 + um) ps ss waits x) ∧ St K q p X [D, N] H H' [(.ref eA, .list es), (fv, .tuple [.tuple ps, .tuple ss])] [(D, is), (N, ds)])
        ⟨[], rfl, by omega, (fun x h => by cases h), S⟩ ?_ ?_
      · rintro j H5 hj ⟨is, hil, hj5, hin, S⟩
        refine ⟨rfl, _, rfl, _, rfl, _, rfl, _, rfl, p, q, _, 2 + um, waits, fv, ps, ss, rfl, S.ext, by omega, by omega, hw, S.get (by walk_at "mem"), hF, fun v Hc d hd b s dd => ?_⟩
        replace S := S.draw b s
        obtain ⟨acc, a1, a2, S2⟩ := S.snoc (.head _) dd (by omega)
        refine ⟨acc, a1, a2, is ++ [d], by rw [List.length_append, hil]; rfl, by omega, fun x hx => ?_, S2⟩
        rcases List.mem_append.mp hx with hx | hx
        · exact hin x hx
        · rw [List.mem_singleton.mp hx]; exact hd
      · rintro H5 ⟨is, hil, hj5, hin, S⟩
        have hie : i < es.length := by omega
        -- nodes.append((tuple(rows), ends[k]))
        refine ⟨_, rfl, .inl ⟨rfl, _, SqL.of (S.getL (a := N) (by walk_at "mem")).1⟩, _, rfl, D, _, rfl, .inl ⟨SqL.of (S.getL (a := D) (by walk_at "mem")).1, fun t n => ?_⟩⟩
        generalize hx : L2.upd _ t _ = Hc
        have S2 : St K q p X [N] H Hc ((.ref t, .tuple is) :: _) ((N, ds) :: _) := (S.tup' n hx (S.getL (.head _)).2).dropL.calm1
        clear n hx S
        have S := S2
        clear S2
        obtain ⟨ea, exs, ee, e1, e2⟩ := Dt.lstInv (S.get (v := .ref eA) (by walk_at "mem"))
        cases ee
        obtain ⟨ve, e, e3, e4, _, e5⟩ := DtAll.pick e2 (u := 0 + (i : Int)) (by omega) (by omega)
        have e4' : es[i]? = some e := by rw [← e4]; congr 1; omega
        refine ⟨_, rfl, _, rfl, _, _, _, _, rfl, rfl, e1, e3, ?_⟩
        replace S := S.put e5
        clear e1 e2 e3 e4 e5
        walk_at "obj"
        obtain ⟨acc, a1, a2, S2⟩ := S.snoc (.head _) (S.get (.head _)) (by omega)
        refine ⟨_, _, _, rfl, rfl, a1, a2, _, _, _, rfl, by rw [List.length_append, hds]; rfl, by omega, fun j d e' f1 f2 => ?_, S2.sub (fun x hx => by
          rcases List.mem_cons.mp hx with rfl | hx
          · walk_at "mem"
          · rw [List.mem_singleton.mp hx]; walk_at "mem") (List.Sublist.refl _)⟩
        by_cases hj : j < ds.length
        · rw [List.getElem?_append_left hj] at f1
          exact hno j d e' f1 f2
        · rw [List.getElem?_append_right (by omega)] at f1
          obtain rfl : j = i := by
            have := (List.getElem?_eq_some_iff.mp f1).1
            simp at this
            omega
          rw [hds, Nat.sub_self] at f1
          cases f1
          rw [e4'] at f2
          cases f2
          exact ⟨is, rfl, by omega, hin⟩
    · rintro σ H4 ⟨yk, yr, ds, rfl, hds, hic, hno, S⟩
      have hdc : ds.length = c := by omega
      obtain ⟨fa, fxs, ee, g1, g2⟩ := Dt.tupInv (S.get (v := fv) (by walk_at "mem"))
      cases ee
      obtain ⟨v0, d0, f1, f2, _, f3⟩ := DtAll.pick g2 (u := 0) (by decide) (by show (0 : Int) < 2; decide)
      obtain ⟨v1, d1, q1, q2, _, q3⟩ := DtAll.pick g2 (u := 1) (by decide) (by show (1 : Int) < 2; decide)
      cases f2
      cases q2
      refine ⟨_, rfl, _, _, _, _, rfl, rfl, g1, f1, _, rfl, _, _, _, _, rfl, rfl, g1, q1, _, rfl, _, rfl, N, _, rfl, .inl ⟨SqL.of (S.getL (a := N) (by walk_at "mem")).1, fun t n => ?_⟩⟩
      have S3 := (S.put f3).put q3
      generalize hx : L2.upd _ t _ = Hc
      have S2 := ((S3.tup' n hx (S3.getL (.head _)).2)).dropL.calm1
      clear n hx S S3 f1 f3 q1 q3 g1 g2
      have S := S2
      walk_at "go"
      exact k _ _ ps ss (2 + um) ds es ⟨hF, m2, m6, by omega, by omega, by omega, by rw [hdc]; exact hE, hno⟩ S.off S.str (Dt.x (S.get (.head _)))
/-! ### where the nodes lead -/
def IsEnd (e : PyData) : Prop := ∃ count many, EndOk count many e
def sp_targets (K : PySem.W.Frag) : Sp := fun vs H Q _ => ∃ (v : V) (e : PyData), vs = [v] ∧ Dp K H v e ∧ IsEnd e ∧ ∀ r H', Same H H' → H r = none → H' r = some (.lst ((tgts e).map V.int)) → Q (.ref r) H'
theorem ok_targets (T : Tx w K mg) : FnOk P w K mg base CX0 1 T.a_targets T.d_targets ["end"] (sp_targets K) := by
  refine T.F_targets.ok sc_targets (fun vs H Q E h => ?_) (fun cdv A outer s H vs Q E hr h => ?_)
  · obtain ⟨v, e, rfl, _⟩ := h
    rfl
  · obtain ⟨v, e, rfl, dv, ⟨count, many, he⟩, k⟩ := h
    refine ⟨_, (pss_cons (ps_if (pt_cmpR op_eq (pe_ix ix_tup (pv 0) pe_int (fun _ _ => rfl)) pe_str (nomark _)) (pss_one (ps_ret (pe_lst (pa_cons (pe_ix ix_tup (pv 0) pe_int (fun _ _ => rfl)) pa_nil)))) pss_nil)
      (pss_cons (ps_if (pt_cmpR op_eq (pe_ix ix_tup (pv 0) pe_int (fun _ _ => rfl)) pe_str (nomark _)) (pss_one (ps_ret (pe_ifExp (pt_cmpR op_eq (pe_ix ix_tup (pv 0) pe_int (fun _ _ => rfl)) (pe_ix ix_tup (pv 0) pe_int (fun _ _ => rfl)) (nomark _)) (pe_lst (pa_cons (pe_ix ix_tup (pv 0) pe_int (fun _ _ => rfl)) pa_nil)) (pe_lst (pa_cons (pe_ix ix_tup (pv 0) pe_int (fun _ _ => rfl)) (pa_cons (pe_ix ix_tup (pv 0) pe_int (fun _ _ => rfl)) pa_nil)))))) pss_nil)
      (pss_one (ps_ret (pe_lst pa_nil))))), ?_⟩
    cases he with
    | exit =>
      obtain ⟨a, xs, u0, rfl, h1, h2, h3⟩ := Dp.item dv (i := 0) rfl
      cases Dp.strInv h3
      refine ⟨_, rfl, _, _, _, _, rfl, rfl, h1, h2, rfl, _, rfl, ite2 (fun z => absurd z (by decide +kernel)) (fun _ => ?_)⟩
      refine ⟨_, rfl, _, _, _, _, rfl, rfl, h1, h2, rfl, _, rfl, ite2 (fun z => absurd z (by decide +kernel)) (fun _ => ?_)⟩
      exact ⟨Nat.zero_le _, fun r nr => k r _ (same_new5 nr) nr upd_same⟩
    | @jump kk k1 k2 =>
      obtain ⟨a, xs, u0, rfl, h1, h2, h3⟩ := Dp.item dv (i := 0) rfl
      cases Dp.strInv h3
      obtain ⟨a', xs', u1, e1, g1, g2, g3⟩ := Dp.item dv (i := 1) rfl
      cases e1
      cases Dp.intInv g3
      refine ⟨_, rfl, _, _, _, _, rfl, rfl, h1, h2, rfl, _, rfl, ite2 (fun _ => ?_) (fun z => absurd rfl z)⟩
      refine ⟨_, rfl, _, _, _, _, rfl, rfl, g1, g2, ?_⟩
      exact ⟨by walk_at "size", fun r nr => k r _ (same_new5 nr) nr (by rw [tgts_jump]; exact upd_same)⟩
    | @branch r0 kk m hr0 k1 k2 m1 m2 =>
      obtain ⟨a, xs, u0, rfl, h1, h2, h3⟩ := Dp.item dv (i := 0) rfl
      cases Dp.strInv h3
      obtain ⟨a', xs', u1, e1, g1, g2, g3⟩ := Dp.item dv (i := 2) rfl
      cases e1
      cases Dp.intInv g3
      obtain ⟨a', xs'', u1, e1, f1, f2, f3⟩ := Dp.item dv (i := 3) rfl
      cases e1
      cases Dp.intInv f3
      refine ⟨_, rfl, _, _, _, _, rfl, rfl, h1, h2, rfl, _, rfl, ite2 (fun z => absurd z (by decide +kernel)) (fun _ => ?_)⟩
      refine ⟨_, rfl, _, _, _, _, rfl, rfl, h1, h2, rfl, _, rfl, ite2 (fun _ => ?_) (fun z => absurd rfl z)⟩
      refine ⟨_, rfl, _, _, _, _, rfl, rfl, g1, g2, _, rfl, _, _, _, _, rfl, rfl, f1, f2, rfl, _, rfl, ite2 (fun z => ?_) (fun z => ?_)⟩
      · have z' : kk = m := by have := of_decide_eq_true z; cases this; rfl
        refine ⟨_, rfl, _, _, _, _, rfl, rfl, g1, g2, ?_⟩
        exact ⟨by walk_at "size", fun r nr => k r _ (same_new5 nr) nr (by rw [tgts_branch, if_pos z']; exact upd_same)⟩
      · have z' : ¬ kk = m := fun e => z (by rw [e]; exact decide_eq_true rfl)
        refine ⟨_, rfl, _, _, _, _, rfl, rfl, g1, g2, _, rfl, _, _, _, _, rfl, rfl, f1, f2, ?_⟩
        exact ⟨by walk_at "size", fun r nr => k r _ (same_new5 nr) nr (by rw [tgts_branch, if_neg z']; exact upd_same)⟩
structure NodesOk (nodes es : List PyData) : Prop where
  len : nodes.length = es.length
  node : ∀ (i : Nat) (d e : PyData), nodes[i]? = some d → es[i]? = some e → (∃ is, d = .tuple [.tuple is, e]) ∧ IsEnd e
  few : nodes.length ≤ 400
theorem Flow.nodes {most waits many : Int} {ps ss nodes es : List PyData} (F : Flow most waits ps ss many nodes es) (h : most ≤ 99) : NodesOk nodes es := by
  refine ⟨F.len, fun i d e h1 h2 => ?_, by have := F.most; omega⟩
  obtain ⟨is, hd, _, _⟩ := F.node i d e h1 h2
  exact ⟨⟨is, hd⟩, _, _, F.ends.2.1 e (List.mem_of_getElem? h2)⟩
def sp_leads_to (K : PySem.W.Frag) : Sp := fun vs H Q _ => ∃ (v : V) (d1 d2 d3 : PyData) (nodes es : List PyData), vs = [v] ∧ Dp K H v (.tuple [d1, d2, d3, .tuple nodes]) ∧ NodesOk nodes es ∧
  ∀ R rs H', Same H H' → (∀ b ∈ R :: rs, H b = none) → Rows H' R rs (es.map tgts) → Q (.ref R) H'
theorem same_upd {H H' : Hp} {D : Addr} {o : HO} (s : Same H H') (n : H D = none) : Same H (L2.upd H' D o) := fun b u hb => by
  rw [upd_ne (fun e => by rw [e, n] at hb; cases hb)]
  exact s b u hb
theorem none_of {H H' : Hp} (s : Same H H') {t : Addr} (n : H' t = none) : H t = none := by
  cases e : H t with
  | none => rfl
  | some o => rw [s _ _ e] at n; cases n
theorem ok_leads_to (T : Tx w K mg) : FnOk P w K mg base CX0 2 T.a_leads_to T.d_leads_to ["graph"] (sp_leads_to K) := by
  refine T.F_leads_to.ok sc_leads_to (fun vs H Q E h => ?_) (fun cdv A outer s H vs Q E hr h => ?_)
  · obtain ⟨v, _, _, _, _, _, rfl, _⟩ := h
    rfl
  · obtain ⟨v, d1, d2, d3, nodes, es, rfl, dv, N, k⟩ := h
    refine ⟨_, (pss_one (ps_ret (pe_lc (own := [("_", 1), ("end", 2)]) (g := gTup K 2 (gCons (gName 1) (gCons (gName 2) gNil))) (tt := tYes) rfl sc_leads_to.nd (pi_tup (pe_ix ix_tup (pv 0) pe_int (fun _ _ => rfl))) (blkOk_by (N := ["graph", "_", "end"]) (sc := defScope s_leads_to) (by decide +kernel)) (fun _ _ _ _ _ => (pg_tup rfl (pgs_cons (pg_name (i := 1) sc_leads_to.nd rfl (.inl rfl)) (pgs_cons (pg_name (i := 2) sc_leads_to.nd rfl (.inl rfl)) pgs_nil)))) (fun _ _ _ _ _ => pts_nil) (fun _ _ _ _ _ => (pe_call (ok_targets T) (hr.mono (by decide)) (by rfl) T.g_targets T.F_targets.kp T.b_targets .nil pass0 (pa_cons (pv 2) pa_nil)))))), ?_⟩
    obtain ⟨a, xs, u0, rfl, h1, h2, h3⟩ := Dp.item dv (i := 3) rfl
    obtain ⟨b, ys, rfl, g1, g2⟩ := Dp.tupInv h3
    have yl := g2.len
    refine ⟨_, rfl, _, _, _, _, rfl, rfl, h1, h2, _, rfl, ⟨_, g1⟩, fun D nD => ?_⟩
    refine lc_tup (K := K) (a := b) (xs := ys) (fun i H' => ∃ rs, Same H H' ∧ (∀ b ∈ D :: rs, H b = none) ∧ Rows H' D rs ((es.take i).map tgts))
      ⟨[], same_new5 nD, (fun c hc => by rw [List.mem_singleton.mp hc]; exact nD), .nil upd_same⟩ (fun i H' _ ⟨rs, s4, _, _⟩ => Same.sqt s4 g1) ?_ ?_
    · rintro i x H4 hx ⟨rs, s4, hn, W⟩
      obtain ⟨d, hd, dx⟩ := DpAll.get (DpAll.same s4 g2) hx
      have hin : i < nodes.length := (List.getElem?_eq_some_iff.mp hd).1
      have hie : i < es.length := by rw [← N.len]; exact hin
      obtain ⟨⟨is, rfl⟩, he⟩ := N.node i d es[i] hd (List.getElem?_eq_getElem hie)
      obtain ⟨n1, xs1, rfl, p1, p2⟩ := Dp.tupInv dx
      cases p2 with
      | @cons w1 _ _ _ q1 p2 =>
      cases p2 with
      | @cons w2 _ _ _ q2 p2 =>
      cases p2
      refine ⟨_, _, rfl, p1, rfl, _, _, rfl, _, _, rfl, rfl, rfl, _, rfl, _, _, rfl, q2, he, fun r H5 s5 nr hr5 => ?_⟩
      have W5 := W.same s5
      have nr0 := none_of s4 nr
      have rD : r ≠ D := fun e => by rw [e, W.top] at nr; cases nr
      refine ⟨_, W5.top, small1000 (by rw [List.length_map, W.len, List.length_map, List.length_take]; have := N.few; omega), rs ++ [r], same_upd (s4.trans s5) nD, fun c hc => ?_, ?_⟩
      · rcases List.mem_cons.mp hc with hc | hc
        · rw [hc]; exact nD
        · rcases List.mem_append.mp hc with hc | hc
          · exact hn c (.tail _ hc)
          · rw [List.mem_singleton.mp hc]; exact nr0
      · have e1 : (es.take (i + 1)).map tgts = (es.take i).map tgts ++ [tgts es[i]] := by rw [List.take_succ, List.getElem?_eq_getElem hie, List.map_append]; rfl
        rw [e1]
        exact W.push' s5 nr hr5
    · rintro H4 ⟨rs, s4, hn, W⟩
      have e1 : (es.take ys.length).map tgts = es.map tgts := by rw [List.take_of_length_le (by rw [← N.len, yl]; exact Nat.le_refl _)]
      rw [e1] at W
      exact k D rs H4 s4 hn W
/-! ### where they come from -/
def cRow (xss : List (List Int)) (i j b : Nat) : List Int := ((List.range i).filter fun a => decide (((b : Nat) : Int) ∈ xss.getD a [])).map Int.ofNat ++ (if ((b : Nat) : Int) ∈ (xss.getD i []).take j then [Int.ofNat i] else [])
def cAt (xss : List (List Int)) (n i j : Nat) : List (List Int) := (List.range n).map (cRow xss i j)
def comes (xss : List (List Int)) : List (List Int) := (List.range xss.length).map fun b => ((List.range xss.length).filter fun a => decide (((b : Nat) : Int) ∈ xss.getD a [])).map Int.ofNat
theorem cAt_len (xss : List (List Int)) (n i j : Nat) : (cAt xss n i j).length = n := by unfold cAt; rw [List.length_map, List.length_range]
theorem cAt_at {xss : List (List Int)} {n i j b : Nat} (h : b < n) : (cAt xss n i j)[b]? = some (cRow xss i j b) := by
  unfold cAt
  rw [List.getElem?_map, List.getElem?_range h]
  rfl
theorem cAt_zero (xss : List (List Int)) (n : Nat) : cAt xss n 0 0 = List.replicate n [] := by
  refine List.ext_getElem? fun b => ?_
  by_cases h : b < n
  · rw [cAt_at h, List.getElem?_replicate, if_pos h]
    rfl
  · rw [List.getElem?_eq_none (by rw [cAt_len]; omega), List.getElem?_eq_none (by rw [List.length_replicate]; omega)]
theorem cAt_next (xss : List (List Int)) (n i : Nat) : cAt xss n i (xss.getD i []).length = cAt xss n (i + 1) 0 := by
  unfold cAt
  refine congrArg (fun f => (List.range n).map f) (funext fun b => ?_)
  unfold cRow
  rw [List.take_length, List.range_succ, List.filter_append, List.map_append, List.take_zero]
  have e : ¬ ((b : Nat) : Int) ∈ ([] : List Int) := by simp
  rw [if_neg e, List.append_nil]
  congr 1
  by_cases z : ((b : Nat) : Int) ∈ xss.getD i []
  · rw [if_pos z, List.filter_cons_of_pos (p := fun a => decide (((b : Nat) : Int) ∈ xss.getD a [])) (decide_eq_true z)]; rfl
  · rw [if_neg z, List.filter_cons_of_neg (p := fun a => decide (((b : Nat) : Int) ∈ xss.getD a [])) (by rw [decide_eq_false z]; exact Bool.false_ne_true)]; rfl
theorem cAt_last (xss : List (List Int)) : cAt xss xss.length xss.length 0 = comes xss := by
  unfold cAt comes cRow
  refine congrArg (fun f => (List.range xss.length).map f) (funext fun b => ?_)
  rw [List.take_zero, if_neg (by simp), List.append_nil]
theorem cAt_step {xss : List (List Int)} {n i j t : Nat} {xs : List Int} (hx : xss.getD i [] = xs) (ht : xs[j]? = some (t : Int)) (nd : xs.Nodup) (hn : t < n) : (cAt xss n i j).set t (cRow xss i j t ++ [Int.ofNat i]) = cAt xss n i (j + 1) := by
  have hj := (List.getElem?_eq_some_iff.mp ht).1
  have tk : xs.take (j + 1) = xs.take j ++ [(t : Int)] := by rw [List.take_succ, ht]; rfl
  have out : ¬ (t : Int) ∈ xs.take j := fun m => by
    obtain ⟨k, hk, e⟩ := List.getElem_of_mem m
    rw [List.length_take] at hk
    rw [List.getElem_take] at e
    have : k = j := (List.getElem?_inj (by omega : k < xs.length) nd).mp (by rw [ht, List.getElem?_eq_getElem (by omega), e])
    omega
  refine List.ext_getElem? fun b => ?_
  by_cases hb : b < n
  · rw [cAt_at hb]
    by_cases z : b = t
    · subst z
      rw [List.getElem?_set_self (by rw [cAt_len]; exact hb)]
      unfold cRow
      rw [hx, tk, if_neg out, if_pos (by simp), List.append_nil]
    · rw [List.getElem?_set_ne (fun e => z e.symm), cAt_at hb]
      unfold cRow
      rw [hx, tk]
      have e : ((b : Nat) : Int) ∈ xs.take j ++ [(t : Int)] ↔ ((b : Nat) : Int) ∈ xs.take j := by
        rw [List.mem_append]
        refine ⟨fun h => h.elim id fun h => ?_, .inl⟩
        have := List.mem_singleton.mp h
        omega
      simp only [e]
  · rw [List.getElem?_eq_none (by rw [List.length_set, cAt_len]; omega), List.getElem?_eq_none (by rw [cAt_len]; omega)]
theorem tgts_nodup {n many : Int} {e : PyData} (h : EndOk n many e) : (tgts e).Nodup ∧ (∀ t ∈ tgts e, 1 ≤ t ∧ t < n) ∧ (tgts e).length ≤ 2 := by
  cases h with
  | exit => exact ⟨List.nodup_nil, fun t h => (by cases h), Nat.zero_le _⟩
  | @jump k k1 k2 =>
    rw [tgts_jump]
    exact ⟨by simp, fun t h => by rw [List.mem_singleton.mp h]; exact ⟨k1, k2⟩, by simp⟩
  | @branch r k m hr k1 k2 m1 m2 =>
    rw [tgts_branch]
    by_cases z : k = m
    · rw [if_pos z]
      exact ⟨by simp, fun t h => by rw [List.mem_singleton.mp h]; exact ⟨k1, k2⟩, by simp⟩
    · rw [if_neg z]
      refine ⟨by simp [z], fun t h => ?_, by simp⟩
      rcases List.mem_cons.mp h with rfl | h
      · exact ⟨k1, k2⟩
      · rw [List.mem_singleton.mp h]; exact ⟨m1, m2⟩
/-- lists of targets as they should be -/
structure WaysOk (xss : List (List Int)) : Prop where
  nd : ∀ xs ∈ xss, xs.Nodup
  lt : ∀ xs ∈ xss, ∀ t ∈ xs, 0 ≤ t ∧ t < xss.length
  few : xss.length ≤ 400
  two : ∀ xs ∈ xss, xs.length ≤ 2
theorem Flow.ways {most waits many : Int} {ps ss nodes es : List PyData} (F : Flow most waits ps ss many nodes es) (h : most ≤ 99) : WaysOk (es.map tgts) := by
  have hl : (es.map tgts).length = nodes.length := by rw [List.length_map, F.len]
  refine ⟨fun xs m => ?_, fun xs m t ht => ?_, by rw [hl]; have := F.most; omega, fun xs m => ?_⟩
  all_goals obtain ⟨e, he, rfl⟩ := List.mem_map.mp m
  all_goals have q := tgts_nodup (F.ends.2.1 e he)
  · exact q.1
  · have := q.2.1 t ht
    rw [hl]
    omega
  · exact q.2.2
def sp_comes_from (K : PySem.W.Frag) : Sp := fun vs H Q _ => ∃ (v : V) (d1 d2 d3 : PyData) (nodes es : List PyData), vs = [v] ∧ Dp K H v (.tuple [d1, d2, d3, .tuple nodes]) ∧ NodesOk nodes es ∧ WaysOk (es.map tgts) ∧
  ∀ R rs H', Same H H' → (∀ b ∈ R :: rs, H b = none) → Rows H' R rs (comes (es.map tgts)) → Q (.ref R) H'
theorem ok_comes_from (T : Tx w K mg) : FnOk P w K mg base CX0 3 T.a_comes_from T.d_comes_from ["graph"] (sp_comes_from K) := by
  refine T.F_comes_from.ok sc_comes_from (fun vs H Q E h => ?_) (fun cdv A outer s H vs Q E hr h => ?_)
  · obtain ⟨v, _, _, _, _, _, rfl, _⟩ := h
    rfl
  · obtain ⟨v, d1, d2, d3, nodes, es, rfl, dv, N, WO, k⟩ := h
    refine ⟨_, (pss_cons (ps_setLc (i := 1) (own := [("_", 5)]) (g := gName 5) (tt := tYes) rfl sc_comes_from.nd rfl rfl (sw_true rfl rfl rfl (by decide +kernel)) (pi_tup (pe_ix ix_tup (pv 0) pe_int (fun _ _ => rfl))) (blkOk_by (N := ["graph", "found", "node", "ways", "target", "_"]) (sc := defScope s_comes_from) (by decide +kernel)) (fun _ _ _ _ _ => (pg_name (i := 5) sc_comes_from.nd rfl (.inl rfl))) (fun _ _ _ _ _ => pts_nil) (fun _ _ _ _ _ => (pe_lst pa_nil)))
      (pss_cons (ps_for PassesOwn.never rfl (pi_enum (by rfl) T.z_enumerate (pa_cons (pe_call (ok_leads_to T) (hr.mono (by decide)) (by rfl) T.g_leads_to T.F_leads_to.kp T.b_leads_to .nil pass0 (pa_cons (pv 0) pa_nil)) pa_nil)) (pg_tup rfl (pgs_cons (pg_name (i := 2) sc_comes_from.nd rfl (.inl rfl)) (pgs_cons (pg_name (i := 3) sc_comes_from.nd rfl (.inl rfl)) pgs_nil))) (pss_one (ps_for PassesOwn.never rfl (pi_list (pv 3)) (pg_name (i := 4) sc_comes_from.nd rfl (.inl rfl)) (pss_one (ps_expr (pe_bm PySem.F.plainAttrs_list PySem.F.slot_list_append PySem.F.type_list_append mt_append (pe_ix ix_list (pv 1) (pv 4) (fun _ _ => rfl)) (pa_cons (pv 2) pa_nil)))))))
      (pss_one (ps_ret (pv 1))))), ?_⟩
    obtain ⟨a, xs, u0, rfl, h1, h2, h3⟩ := Dp.item dv (i := 3) rfl
    obtain ⟨b, ys, rfl, g1, g2⟩ := Dp.tupInv h3
    have yl := g2.len
    have lX : (es.map tgts).length = nodes.length := by rw [List.length_map, N.len]
    generalize hX : es.map tgts = xss at WO lX k
    refine ⟨_, rfl, _, _, _, _, rfl, rfl, h1, h2, _, rfl, ⟨_, g1⟩, fun D nD => ?_⟩
    refine lc_tup (K := K) (a := b) (xs := ys) (fun i H' => ∃ rs, Same H H' ∧ (∀ b ∈ D :: rs, H b = none) ∧ Rows H' D rs (List.replicate i []))
      ⟨[], same_new5 nD, (fun c hc => by rw [List.mem_singleton.mp hc]; exact nD), .nil upd_same⟩ (fun i H' _ ⟨rs, s4, _, _⟩ => Same.sqt s4 g1) ?_ ?_
    · rintro i x H4 hx ⟨rs, s4, hn, W⟩
      have hil : i < ys.length := (List.getElem?_eq_some_iff.mp hx).1
      have hl : rs.length = i := by rw [W.len, List.length_replicate]
      refine ⟨rfl, Nat.zero_le _, fun t nt => ⟨rs.map V.ref, (same_new5 nt) _ _ W.top, small1000 (by rw [List.length_map]; have := N.few; omega), rs ++ [t], same_upd (s4.trans (same_new5 nt)) nD, fun c hc => ?_, ?_⟩⟩
      · rcases List.mem_cons.mp hc with hc | hc
        · rw [hc]; exact nD
        · rcases List.mem_append.mp hc with hc | hc
          · exact hn c (.tail _ hc)
          · rw [List.mem_singleton.mp hc]; exact none_of s4 nt
      · rw [List.replicate_succ']
        exact W.push (xs := []) nt
    · rintro H4 ⟨rs, s4, hn, W⟩
      refine ⟨_, rfl, _, d1, d2, d3, nodes, es, rfl, dv.same s4, N, fun LR lrs H5 s5 hn5 W5 => ?_⟩
      rw [hX] at W5
      have W4 := W.same s5
      have apart : ∀ b ∈ LR :: lrs, b ∉ D :: rs := fun b m m2 => by
        have z := hn5 b m
        rcases List.mem_cons.mp m2 with m2 | m2
        · rw [m2, W.top] at z; cases z
        · obtain ⟨k, hk, e⟩ := List.getElem_of_mem m2
          have hk2 : k < (List.replicate ys.length ([] : List Int)).length := by rw [← W.len]; exact hk
          have := W.row k b _ (by rw [List.getElem?_eq_getElem hk, e]) (List.getElem?_eq_getElem hk2)
          rw [z] at this
          cases this
      have lrl : (lrs.map V.ref).length = xss.length := by rw [List.length_map, W5.len]
      refine ⟨_, _, rfl, SqL.of W5.top, ?_⟩
      rw [yl, ← lX, ← cAt_zero xss xss.length] at W4
      refine for_it walk_enum (fun i σ H' => ∃ y2 y3 y4, σ = [some (.ref a), some (.ref D), y2, y3, y4, none] ∧ Same H H' ∧ Rows H' D rs (cAt xss xss.length i 0) ∧ Rows H' LR lrs xss)
        ⟨none, none, none, rfl, s4.trans s5, W4, W5⟩ (fun i σ H' _ ⟨_, _, _, _, _, _, w⟩ => SqL.of w.top) ?_ ?_
      · rintro i x σ H6 H7 hi ⟨y2, y3, y4, rfl, s6, W6, V6⟩ ⟨t, u, z, rfl, nt, rfl, hu, hz⟩
        cases hu
        have hix : i < xss.length := by omega
        have hlr : i < lrs.length := by rw [V6.len]; exact hix
        have hz' : (lrs.map V.ref)[i]? = some z := hz
        rw [List.getElem?_map, List.getElem?_eq_getElem hlr] at hz'
        cases hz'
        have rowi := V6.row i _ _ (List.getElem?_eq_getElem hlr) (List.getElem?_eq_getElem hix)
        have mi : lrs[i] ∈ LR :: lrs := .tail _ (List.getElem_mem hlr)
        have nX := WO.nd _ (List.getElem_mem hix)
        have lX2 := WO.lt _ (List.getElem_mem hix)
        have gX : xss.getD i [] = xss[i] := by rw [List.getD_eq_getElem?_getD, List.getElem?_eq_getElem hix]; rfl
        generalize xss[i] = xs at rowi nX lX2 gX
        have s7 : Same H6 (L2.upd H6 t (.tup [.int (i : Nat), .ref lrs[i]])) := same_new5 nt
        have W7 := W6.same s7
        have V7 := V6.same s7
        have row7 := s7 _ _ rowi
        refine ⟨_, _, rfl, SqT.of upd_same, rfl, _, _, rfl, _, _, rfl, rfl, ?_⟩
        generalize L2.upd H6 t (.tup [.int (i : Nat), .ref lrs[i]]) = H8 at s7 W7 V7 row7 ⊢
        refine ⟨_, rfl, _, rfl, ⟨_, SqL.of row7⟩, for_list (K := K) (a := lrs[i]) (xs := xs.map V.int) (fun j σ H' => ∃ y4, σ = [some (.ref a), some (.ref D), some (.int (i : Nat)), some (.ref lrs[i]), y4, none] ∧ Same H H' ∧ Rows H' D rs (cAt xss xss.length i j) ∧ Rows H' LR lrs xss ∧ H' lrs[i] = some (.lst (xs.map V.int)))
          ⟨y4, rfl, s6.trans s7, W7, V7, row7⟩ (fun j σ H' _ ⟨_, _, _, _, _, r⟩ => SqL.of r) ?_ ?_⟩
        · rintro j x σ H9 hx ⟨y4, rfl, s9, W9, V9, r9⟩
          rw [List.getElem?_map] at hx
          cases hxj : xs[j]? with
          | none => rw [hxj] at hx; cases hx
          | some ti =>
            rw [hxj] at hx
            cases hx
            have tb := lX2 ti (List.mem_of_getElem? hxj)
            obtain ⟨tn, rfl⟩ : ∃ n : Nat, ti = (n : Int) := ⟨ti.toNat, by omega⟩
            have htn : tn < xss.length := by omega
            have ca := cAt_at (xss := xss) (i := i) (j := j) htn
            obtain ⟨r, e1, e2, e3, e4⟩ := W9.at ca
            have mr : r ∈ D :: rs := .tail _ (List.mem_of_getElem? e1)
            have step := cAt_step gX hxj nX htn
            have rl : (cRow xss i j tn).length ≤ 500 := by
              unfold cRow
              rw [List.length_append, List.length_map]
              have q1 := List.length_filter_le (fun a => decide (((tn : Nat) : Int) ∈ xss.getD a [])) (List.range i)
              rw [List.length_range] at q1
              have q2 := WO.few
              split
              · rw [List.length_singleton]; omega
              · rw [List.length_nil]; omega
            refine ⟨_, rfl, _, rfl, _, _, _, _, rfl, rfl, e2, e3, .inl ⟨rfl, _, SqL.of e4⟩, _, rfl, _, _, _, rfl, rfl, e4, small1000 (by rw [List.length_map]; omega), ?_⟩
            refine ⟨_, rfl, same_upd s9 (hn r mr), ?_, V9.chg (fun m => apart r m mr), ?_⟩
            · have := W9.app (v := Int.ofNat i) e1 ca
              rw [step] at this
              exact this
            · rw [upd_ne (fun e => apart _ mi (by rw [e]; exact mr))]
              exact r9
        · rintro σ H9 ⟨y4, rfl, s9, W9, V9, r9⟩
          rw [List.length_map, ← gX, cAt_next] at W9
          exact ⟨_, _, _, rfl, s9, W9, V9⟩
      · rintro σ H6 ⟨y2, y3, y4, rfl, s6, W6, V6⟩
        rw [lrl, cAt_last] at W6
        exact ⟨_, rfl, k D rs H6 s6 hn W6⟩
def sp_law_leads (K : PySem.W.Frag) : Sp := fun vs H Q _ => ∃ (v : V) (nodes es : List PyData), vs = [v] ∧ Dp K H v (.tuple nodes) ∧ NodesOk nodes es ∧
  ∀ R rs H', Same H H' → (∀ b ∈ R :: rs, H b = none) → Rows H' R rs (es.map tgts) → Q (.ref R) H'
theorem ok_law_leads (T : Tx w K mg) : FnOk P w K mg base CX0 1 T.a_law_leads T.d_law_leads ["nodes"] (sp_law_leads K) := by
  refine T.F_law_leads.ok sc_law_leads (fun vs H Q E h => ?_) (fun cdv A outer s H vs Q E hr h => ?_)
  · obtain ⟨v, _, _, rfl, _⟩ := h
    rfl
  · obtain ⟨v, nodes, es, rfl, dv, N, k⟩ := h
    refine ⟨_, (pss_cons (ps_set (i := 1) sc_law_leads.nd rfl (.inl rfl) (pe_lst pa_nil))
      (pss_cons (ps_for PassesOwn.never rfl (pi_tup (pv 0)) (pg_name (i := 2) sc_law_leads.nd rfl (.inl rfl)) (pss_cons (ps_set (i := 3) sc_law_leads.nd rfl (.inl rfl) (pe_ix ix_tup (pv 2) pe_int (fun _ _ => rfl)))
      (pss_one (ps_if (pt_cmpR op_eq (pe_ix ix_tup (pv 3) pe_int (fun _ _ => rfl)) pe_str (nomark _)) (pss_one (ps_expr (pe_bm PySem.F.plainAttrs_list PySem.F.slot_list_append PySem.F.type_list_append mt_append (pv 1) (pa_cons (pe_lst (pa_cons (pe_ix ix_tup (pv 3) pe_int (fun _ _ => rfl)) pa_nil)) pa_nil)))) (pss_one (ps_if (pt_cmpR op_eq (pe_ix ix_tup (pv 3) pe_int (fun _ _ => rfl)) pe_str (nomark _)) (pss_one (ps_expr (pe_bm PySem.F.plainAttrs_list PySem.F.slot_list_append PySem.F.type_list_append mt_append (pv 1) (pa_cons (pe_op op_cat (pe_lst (pa_cons (pe_ix ix_tup (pv 3) pe_int (fun _ _ => rfl)) pa_nil)) (pe_op op_rep (pe_lst (pa_cons (pe_ix ix_tup (pv 3) pe_int (fun _ _ => rfl)) pa_nil)) (pe_callTy call_int1 (by rfl) T.z_int (by decide +kernel) (pa_cons (pe_cmpR op_ne (pe_ix ix_tup (pv 3) pe_int (fun _ _ => rfl)) (pe_ix ix_tup (pv 3) pe_int (fun _ _ => rfl)) (nomark _)) pa_nil)))) pa_nil)))) (pss_one (ps_expr (pe_bm PySem.F.plainAttrs_list PySem.F.slot_list_append PySem.F.type_list_append mt_append (pv 1) (pa_cons (pe_lst pa_nil) pa_nil))))))))))
      (pss_one (ps_ret (pv 1))))), ?_⟩
    obtain ⟨b, ys, rfl, g1, g2⟩ := Dp.tupInv dv
    have yl := g2.len
    refine ⟨Nat.zero_le _, fun D nD => ?_⟩
    refine ⟨_, rfl, b, rfl, ⟨_, Same.sqt (same_new5 nD) g1⟩, for_tup (K := K) (a := b) (xs := ys) (fun i σ H' => ∃ y2 y3 rs, σ = [some (.ref b), some (.ref D), y2, y3] ∧ Same H H' ∧ (∀ b ∈ D :: rs, H b = none) ∧ Rows H' D rs ((es.take i).map tgts))
      ⟨none, none, [], rfl, same_new5 nD, (fun c hc => by rw [List.mem_singleton.mp hc]; exact nD), .nil upd_same⟩ (fun i σ H' _ ⟨_, _, _, _, s4, _⟩ => Same.sqt s4 g1) ?_ ?_⟩
    · rintro i x σ H4 hx ⟨y2, y3, rs, rfl, s4, hn, W⟩
      obtain ⟨d, hd, dx⟩ := DpAll.get (DpAll.same s4 g2) hx
      have hin : i < nodes.length := (List.getElem?_eq_some_iff.mp hd).1
      have hie : i < es.length := by rw [← N.len]; exact hin
      obtain ⟨⟨is, rfl⟩, he⟩ := N.node i d es[i] hd (List.getElem?_eq_getElem hie)
      have e1 : (es.take (i + 1)).map tgts = (es.take i).map tgts ++ [tgts es[i]] := by rw [List.take_succ, List.getElem?_eq_getElem hie, List.map_append]; rfl
      obtain ⟨n1, xs1, u1, rfl, p1, p2, p3⟩ := Dp.item dx (i := 1) rfl
      refine ⟨_, rfl, _, _, _, _, rfl, rfl, p1, p2, ?_⟩
      -- the end of each way: a row is put behind the others
      have fin : ∀ (r : Addr) (H5 : Hp), Same H4 H5 → H4 r = none → H5 r = some (.lst ((tgts es[i]).map V.int)) → (rs.map V.ref).length < sizeLine ∧ H5 D = some (.lst (rs.map V.ref)) ∧ Same H (L2.upd H5 D (.lst (rs.map V.ref ++ [.ref r]))) ∧
          (∀ b ∈ D :: (rs ++ [r]), H b = none) ∧ Rows (L2.upd H5 D (.lst (rs.map V.ref ++ [.ref r]))) D (rs ++ [r]) ((es.take (i + 1)).map tgts) := fun r H5 s5 nr hr5 => by
        refine ⟨small1000 (by rw [List.length_map, W.len, List.length_map, List.length_take]; have := N.few; omega), s5 _ _ W.top, same_upd (s4.trans s5) nD, fun c hc => ?_, ?_⟩
        · rcases List.mem_cons.mp hc with hc | hc
          · rw [hc]; exact nD
          · rcases List.mem_append.mp hc with hc | hc
            · exact hn c (.tail _ hc)
            · rw [List.mem_singleton.mp hc]; exact none_of s4 nr
        · rw [e1]
          exact W.push' s5 nr hr5
      have top : ∀ {H5 : Hp}, Same H4 H5 → H5 D = some (.lst (rs.map V.ref)) := fun s5 => s5 _ _ W.top
      generalize es[i] = e at he p3 fin
      obtain ⟨cc, mm, he⟩ := he
      cases he with
      | exit =>
        obtain ⟨a, xs, u0, rfl, h1, h2, h3⟩ := Dp.item p3 (i := 0) rfl
        cases Dp.strInv h3
        refine ⟨_, rfl, _, _, _, _, rfl, rfl, h1, h2, rfl, _, rfl, ite2 (fun z => absurd z (by decide +kernel)) (fun _ => ?_)⟩
        refine ⟨_, rfl, _, _, _, _, rfl, rfl, h1, h2, rfl, _, rfl, ite2 (fun z => absurd z (by decide +kernel)) (fun _ => ?_)⟩
        refine ⟨_, rfl, .inl ⟨rfl, _, SqL.of W.top⟩, Nat.zero_le _, fun r nr => ?_⟩
        obtain ⟨f1, f2, f3, f4, f5⟩ := fin r _ (same_new5 (o := .lst []) nr) nr upd_same
        exact ⟨_, _, _, rfl, rfl, f2, f1, _, _, _, rfl, f3, f4, f5⟩
      | @jump kk k1 k2 =>
        obtain ⟨a, xs, u0, rfl, h1, h2, h3⟩ := Dp.item p3 (i := 0) rfl
        cases Dp.strInv h3
        obtain ⟨a', xs', u1, e1, g1, g2, g3⟩ := Dp.item p3 (i := 1) rfl
        cases e1
        cases Dp.intInv g3
        refine ⟨_, rfl, _, _, _, _, rfl, rfl, h1, h2, rfl, _, rfl, ite2 (fun _ => ?_) (fun z => absurd rfl z)⟩
        refine ⟨_, rfl, .inl ⟨rfl, _, SqL.of W.top⟩, _, rfl, _, _, _, _, rfl, rfl, g1, g2, by walk_at "size", fun r nr => ?_⟩
        obtain ⟨f1, f2, f3, f4, f5⟩ := fin r _ (same_new5 (o := .lst [.int kk]) nr) nr (by rw [tgts_jump]; exact upd_same)
        exact ⟨_, _, _, rfl, rfl, f2, f1, _, _, _, rfl, f3, f4, f5⟩
      | @branch r0 kk m hr0 k1 k2 m1 m2 =>
        obtain ⟨a, xs, u0, rfl, h1, h2, h3⟩ := Dp.item p3 (i := 0) rfl
        cases Dp.strInv h3
        refine ⟨_, rfl, _, _, _, _, rfl, rfl, h1, h2, rfl, _, rfl, ite2 (fun z => absurd z (by decide +kernel)) (fun _ => ?_)⟩
        refine ⟨_, rfl, _, _, _, _, rfl, rfl, h1, h2, rfl, _, rfl, ite2 (fun _ => ?_) (fun z => absurd rfl z)⟩
        obtain ⟨a', xs', u1, e1, g1, g2, g3⟩ := Dp.item p3 (i := 2) rfl
        cases e1
        cases Dp.intInv g3
        refine ⟨_, rfl, .inl ⟨rfl, _, SqL.of W.top⟩, _, rfl, _, _, _, _, rfl, rfl, g1, g2, by walk_at "size", fun l1 n1 => ?_⟩
        have t1 := same_new5 (o := .lst [.int kk]) n1
        have v1 : L2.upd H4 l1 (.lst [.int kk]) l1 = some (.lst [.int kk]) := upd_same
        have p4 := p3.same t1
        generalize L2.upd H4 l1 (.lst [.int kk]) = H5 at t1 v1 p4 ⊢
        obtain ⟨a', xs'', u1, e1, q1, q2, q3⟩ := Dp.item p4 (i := 3) rfl
        cases e1
        cases Dp.intInv q3
        refine ⟨_, rfl, _, _, _, _, rfl, rfl, q1, q2, by walk_at "size", fun l2 n2 => ?_⟩
        have t2 := same_new5 (o := .lst [.int m]) n2
        have v2 : L2.upd H5 l2 (.lst [.int m]) l2 = some (.lst [.int m]) := upd_same
        have p5 := p4.same t2
        generalize L2.upd H5 l2 (.lst [.int m]) = H6 at t2 v2 p5 ⊢
        obtain ⟨a', xs3, u1, e1, r1, r2, r3⟩ := Dp.item p5 (i := 2) rfl
        cases e1
        cases Dp.intInv r3
        obtain ⟨a', xs4, u1, e1, w1, w2, w3⟩ := Dp.item p5 (i := 3) rfl
        cases e1
        cases Dp.intInv w3
        refine ⟨_, rfl, _, _, _, _, rfl, rfl, r1, r2, _, rfl, _, _, _, _, rfl, rfl, w1, w2, rfl, .inr ⟨_, rfl, ?_⟩⟩
        have fl : ∀ x : Int, (if (!decide (V.int kk = V.int m)) = true then (1 : Int) else 0) = x → x = 0 ∨ x = 1 := fun x e => by split at e <;> omega
        have val : (List.replicate (if (!decide (V.int kk = V.int m)) = true then (1 : Int) else 0).toNat [V.int m]).flatten = if kk = m then [] else [V.int m] := by
          by_cases z : kk = m
          · rw [if_pos z, z, decide_eq_true rfl]; rfl
          · rw [if_neg z, decide_eq_false (fun e => z (by cases e; rfl))]; rfl
        generalize (if (!decide (V.int kk = V.int m)) = true then (1 : Int) else 0) = kx at fl val ⊢
        have k01 := fl kx rfl
        refine ⟨l2, kx, _, rfl, rfl, v2, by omega, by omega, Nat.le_of_lt (small1000 (by rw [List.length_singleton]; omega)), fun l3 n3 => ?_⟩
        rw [val]
        have t3 := same_new5 (o := .lst (if kk = m then [] else [V.int m])) n3
        refine ⟨l1, l3, _, _, rfl, rfl, t3 _ _ (t2 _ _ v1), upd_same, Nat.le_of_lt (small1000 (by split <;> simp)), fun l4 n4 => ?_⟩
        have s4 := ((t1.trans t2).trans t3).trans (same_new5 (o := .lst ([V.int kk] ++ (if kk = m then [] else [V.int m]))) n4)
        have n4' := none_of ((t1.trans t2).trans t3) n4
        obtain ⟨f1, f2, f3, f4, f5⟩ := fin l4 _ s4 n4' (by
          rw [tgts_branch, upd_same]
          by_cases z : kk = m
          · rw [if_pos z, if_pos z]; rfl
          · rw [if_neg z, if_neg z]; rfl)
        exact ⟨_, _, _, rfl, rfl, f2, f1, _, _, _, rfl, f3, f4, f5⟩
    · rintro σ H4 ⟨y2, y3, rs, rfl, s4, hn, W⟩
      have e1 : (es.take ys.length).map tgts = es.map tgts := by rw [List.take_of_length_le (by rw [← N.len, yl]; exact Nat.le_refl _)]
      rw [e1] at W
      exact ⟨_, rfl, k D rs H4 s4 hn W⟩
theorem inV_ints (t : Int) : ∀ xs : List Int, inV (.int t) (xs.map V.int) = decide (t ∈ xs)
  | [] => by simp [inV]
  | x :: r => by
    have a := inV_ints t r
    unfold inV at a ⊢
    rw [List.map_cons, List.any_cons, a]
    have e : eqV (.int x) (.int t) = decide (x = t) := by
      show (x == t) = _
      by_cases z : x = t
      · rw [z, decide_eq_true rfl, beq_self_eq_true]
      · rw [decide_eq_false z, beq_eq_false_iff_ne.mpr z]
    rw [e]
    by_cases z : x = t
    · rw [decide_eq_true z, Bool.true_or, decide_eq_true (by rw [z]; exact .head _)]
    · rw [decide_eq_false z, Bool.false_or]
      by_cases y : t ∈ r
      · rw [decide_eq_true y, decide_eq_true (.tail _ y)]
      · rw [decide_eq_false y, decide_eq_false (fun m => (List.mem_cons.mp m).elim (fun e => z e.symm) y)]
theorem flat_ints (xs : List Int) : (xs.map V.int).all flatV = true := by
  induction xs with
  | nil => rfl
  | cons x r ih => rw [List.map_cons, List.all_cons, ih]; rfl
def sp_law_comes (K : PySem.W.Frag) : Sp := fun vs H Q _ => ∃ (v : V) (nodes es : List PyData), vs = [v] ∧ Dp K H v (.tuple nodes) ∧ NodesOk nodes es ∧
  ∀ R rs H', Same H H' → (∀ b ∈ R :: rs, H b = none) → Rows H' R rs (comes (es.map tgts)) → Q (.ref R) H'
theorem ok_law_comes (T : Tx w K mg) : FnOk P w K mg base CX0 2 T.a_law_comes T.d_law_comes ["nodes"] (sp_law_comes K) := by
  refine T.F_law_comes.ok sc_law_comes (fun vs H Q E h => ?_) (fun cdv A outer s H vs Q E hr h => ?_)
  · obtain ⟨v, _, _, rfl, _⟩ := h
    rfl
  · obtain ⟨v, nodes, es, rfl, dv, N, k⟩ := h
    refine ⟨_, (pss_cons (ps_set (i := 1) sc_law_comes.nd rfl (.inr rfl) (pe_call (ok_law_leads T) (hr.mono (by decide)) (by rfl) T.g_law_leads T.F_law_leads.kp T.b_law_leads .nil pass0 (pa_cons (pv 0) pa_nil)))
      (pss_one (ps_ret (pe_lc (own := [("b", 2)]) (g := gName 2) (tt := tYes) rfl sc_law_comes.nd (pi_range1 (by rfl) T.z_range (pa_cons (pe_callB call_len_seq (by rfl) T.z_len (by decide +kernel) (pa_cons (pv 0) pa_nil)) pa_nil)) (blkOk_by (N := ["nodes", "rows", "b", "a"]) (sc := defScope s_law_comes) (by decide +kernel)) (fun _ _ _ _ _ => (pg_name (i := 2) sc_law_comes.nd rfl (.inr rfl))) (fun _ _ _ _ _ => pts_nil) (fun _ _ _ _ _ => (pe_lc (own := [("a", 3)]) (g := gName 3)  rfl sc_law_comes.nd (pi_range1 (by rfl) T.z_range (pa_cons (pe_callB (show CallR _ _ (rLenS K) from call_len_seq) (by rfl) T.z_len (by decide +kernel) (pa_cons (pv 0) pa_nil)) pa_nil)) (blkOk_by (N := ["nodes", "rows", "b", "a"]) (by kernel_rfl)) (fun _ _ _ _ _ => (pg_name (i := 3) sc_law_comes.nd rfl (.inl rfl))) (fun _ _ _ _ _ => (pts_one (pt_cmpR (show OpR _ _ (rIn K false) from op_in_seq) (pv 2) (pe_ix (show IxR _ (rIxL K) from ix_list) (pv 1) (pv 3) (fun _ _ => rfl)) (by rfl)))) (fun _ _ _ _ _ => (pv 3)))))))), ?_⟩
    refine ⟨_, rfl, _, nodes, es, rfl, dv, N, fun LR lrs H1 s1 hn1 W1 => ?_⟩
    obtain ⟨b, ys, rfl, g1, g2⟩ := Dp.tupInv (dv.same s1)
    have yl := g2.len
    have lX : (es.map tgts).length = nodes.length := by rw [List.length_map, N.len]
    have few := N.few
    generalize es.map tgts = xss at W1 lX k
    refine ⟨_, rfl, _, _, rfl, .inr g1, _, rfl, by omega, by omega, fun D nD => ?_⟩
    have en : (ys.length : Int).toNat = xss.length := by omega
    refine lc_range (n := (ys.length : Int).toNat) (fun i H' => ∃ rs, Same H1 H' ∧ (∀ b ∈ D :: rs, H1 b = none) ∧ Rows H' D rs ((comes xss).take i))
      ⟨[], same_new5 nD, (fun c hc => by rw [List.mem_singleton.mp hc]; exact nD), .nil upd_same⟩ ?_ ?_
    · rintro i H4 hi ⟨rs, s4, hn, W⟩
      have hix : i < xss.length := by omega
      refine ⟨rfl, _, rfl, _, _, rfl, .inr (Same.sqt s4 g1), _, rfl, by omega, by omega, fun C nC => ?_⟩
      refine lc_range (n := (ys.length : Int).toNat) (fun j H' => Same H4 H' ∧ j ≤ xss.length ∧ H' C = some (.lst ((((List.range j).filter fun a => decide (((i : Nat) : Int) ∈ xss.getD a [])).map Int.ofNat).map V.int)))
        ⟨same_new5 nC, Nat.zero_le _, upd_same⟩ ?_ ?_
      · rintro j H5 hj ⟨s5, hj2, hC⟩
        have hjx : j < xss.length := by omega
        have gX : xss.getD j [] = xss[j] := by rw [List.getD_eq_getElem?_getD, List.getElem?_eq_getElem hjx]; rfl
        obtain ⟨r, e1, e2, e3, e4⟩ := (W1.same (s4.trans s5)).at (List.getElem?_eq_getElem hjx)
        refine ⟨rfl, _, rfl, _, rfl, _, rfl, _, _, _, _, rfl, rfl, e2, (by rw [Int.zero_add]; exact e3), _, _, rfl, .inl (SqL.of e4), rfl, flat_ints _, _, rfl, ?_⟩
        have hv : (if false = true then !inV (V.int (0 + (i : Int))) (List.map V.int xss[j]) else inV (V.int (0 + (i : Int))) (List.map V.int xss[j])) = decide (((i : Nat) : Int) ∈ xss.getD j []) := by
          rw [if_neg Bool.false_ne_true, inV_ints, gX, Int.zero_add]
        have ln : ((List.range j).filter fun a => decide (((i : Nat) : Int) ∈ xss.getD a [])).length ≤ j := Nat.le_trans (List.length_filter_le _ _) (by rw [List.length_range]; exact Nat.le_refl _)
        have st : (List.range (j + 1)).filter (fun a => decide (((i : Nat) : Int) ∈ xss.getD a [])) = (List.range j).filter (fun a => decide (((i : Nat) : Int) ∈ xss.getD a [])) ++ (if ((i : Nat) : Int) ∈ xss.getD j [] then [j] else []) := by
          rw [List.range_succ, List.filter_append]
          congr 1
          by_cases z : ((i : Nat) : Int) ∈ xss.getD j []
          · rw [if_pos z, List.filter_cons_of_pos (p := fun a => decide (((i : Nat) : Int) ∈ xss.getD a [])) (decide_eq_true z)]; rfl
          · rw [if_neg z, List.filter_cons_of_neg (p := fun a => decide (((i : Nat) : Int) ∈ xss.getD a [])) (by rw [decide_eq_false z]; exact Bool.false_ne_true)]; rfl
        refine ite2 (fun z => ?_) (fun z => ?_)
        · rw [hv] at z
          have z' := of_decide_eq_true z
          refine ⟨_, rfl, _, hC, small1000 (by rw [List.length_map, List.length_map]; omega), same_upd s5 nC, by omega, ?_⟩
          rw [upd_same, st, if_pos z', List.map_append, List.map_append, Int.zero_add]; rfl
        · rw [hv] at z
          have z' : ¬ ((i : Nat) : Int) ∈ xss.getD j [] := fun m => z (decide_eq_true m)
          refine ⟨s5, by omega, ?_⟩
          rw [st, if_neg z', List.append_nil]; exact hC
      · rintro H5 ⟨s5, _, hC⟩
        have W5 := W.same s5
        have nC1 := none_of s4 nC
        rw [en] at hC
        have cl : (comes xss).length = xss.length := by unfold comes; rw [List.length_map, List.length_range]
        refine ⟨_, W5.top, small1000 (by rw [List.length_map, W.len, List.length_take]; omega), rs ++ [C], same_upd (s4.trans s5) nD, fun c hc => ?_, ?_⟩
        · rcases List.mem_cons.mp hc with hc | hc
          · rw [hc]; exact nD
          · rcases List.mem_append.mp hc with hc | hc
            · exact hn c (.tail _ hc)
            · rw [List.mem_singleton.mp hc]; exact nC1
        · have e1 : (comes xss).take (i + 1) = (comes xss).take i ++ [((List.range xss.length).filter fun a => decide (((i : Nat) : Int) ∈ xss.getD a [])).map Int.ofNat] := by
            rw [List.take_succ]
            unfold comes
            rw [List.getElem?_map, List.getElem?_range hix]
            rfl
          rw [e1]
          exact W.push' s5 nC hC
    · rintro H4 ⟨rs, s4, hn, W⟩
      have e1 : (comes xss).take ((ys.length : Int).toNat) = comes xss := List.take_of_length_le (by unfold comes; rw [List.length_map, List.length_range]; omega)
      rw [e1] at W
      exact k D rs H4 (s1.trans s4) (fun b hb => none_of s1 (hn b hb)) W
def rowsD (zs : List (List Int)) : PyData := .list (zs.map fun xs => .list (xs.map PyData.int))
mutual
theorem Dp.fresh {K : PySem.W.Frag} {H : Hp} : ∀ {v : V} {d : PyData}, Dp K H v d → Dt (fun b => H b = none) K H v d
  | _, _, .non => .non
  | _, _, .bl b => .bl b
  | _, _, .int i => .int i
  | _, _, .str x => .str x
  | _, _, .lst (.inl h) r => .lst (.inl ⟨h.some, h⟩) (DpAll.fresh r)
  | _, _, .lst (.inr h) r => .lst (.inr h) (DpAll.fresh r)
  | _, _, .tup (.inl h) r => .tup (.inl ⟨h.some, h⟩) (DpAll.fresh r)
  | _, _, .tup (.inr h) r => .tup (.inr h) (DpAll.fresh r)
theorem DpAll.fresh {K : PySem.W.Frag} {H : Hp} : ∀ {vs : List V} {ds : List PyData}, DpAll K H vs ds → DtAll (fun b => H b = none) K H vs ds
  | _, _, .nil => .nil
  | _, _, .cons h r => .cons (Dp.fresh h) (DpAll.fresh r)
end
/-- what is read stays where only new things change -/
theorem Dp.stay {K : PySem.W.Frag} {H H' : Hp} {v : V} {d : PyData} (h : Dp K H v d) (o : ∀ b u, H b = some u → H' b = some u) : Dp K H' v d := h.same o
theorem Rows.dp {K : PySem.W.Frag} {H : Hp} {R : Addr} {rs : List Addr} {xss : List (List Int)} (W : Rows H R rs xss) : Dp K H (.ref R) (rowsD xss) := (W.data (M := fun _ => False) fun _ _ h => h).dp
theorem shows_two {d e : PyData} (a : Shows d) (b : Shows e) (ha : d.shown.length ≤ 100000) (hb : e.shown.length ≤ 100000) (da : d.depth ≤ 5) (db : e.depth ≤ 5) : Shows (.list [d, e]) := by
  refine ⟨?_, ?_, ?_, ?_⟩
  · simp only [PyData.showable, PyData.showableAll, a.able, b.able, Bool.and_self]
  · simp only [PyData.hasDict, PyData.hasDictAll, a.dict, b.dict, Bool.or_self]
  · simp only [PyData.depth, PyData.depthAll]; omega
  · have q := listText_le (PyData.shownAll [d, e])
    simp only [PyData.shownAll, List.map_cons, List.map_nil, List.sum_cons, List.sum_nil] at q
    simp only [PyData.shown, PyData.shownAll]
    exact Nat.le_trans q (Nat.le_trans (by omega : _ ≤ 300000) (by rw [sizeLine_eq]; decide))
theorem ok_law (T : Tx w K mg) : LawRun P w K mg T.a_law T.d_law "script" 63 := by
  intro base s H a ns Q E inB hns en bi hlen hS qq
  refine T.F_law.runAt sc_law (k := 80) (us := [Value.ref a]) (vs := [V.ref a]) ⟨rfl, by decide, by decide⟩ en bi (.cons rfl .nil) rfl (fun cdv hr => ?_)
  refine ⟨_, (pss_cons (ps_set (i := 1) sc_law.nd rfl (.inl rfl) (pe_call (ok_law_stream T) (hr.mono (by decide)) (by rfl) T.g_law_stream T.F_law_stream.kp T.b_law_stream .nil pass0 (pa_cons (pv 0) pa_nil)))
      (pss_cons (ps_set (i := 2) sc_law.nd rfl (.inl rfl) (pe_call (ok_law_flow T) (hr.mono (by decide)) (by rfl) T.g_law_flow T.F_law_flow.kp T.b_law_flow .nil pass0 (pa_cons (pv 1) (pa_cons pe_int (pa_cons pe_int pa_nil)))))
      (pss_cons (ps_set (i := 3) sc_law.nd rfl (.inl rfl) (pe_lst (pa_cons (pe_call (ok_law_leads T) (hr.mono (by decide)) (by rfl) T.g_law_leads T.F_law_leads.kp T.b_law_leads .nil pass0 (pa_cons (pe_ix ix_tup (pv 2) pe_int (fun _ _ => rfl)) pa_nil)) (pa_cons (pe_call (ok_law_comes T) (hr.mono (by decide)) (by rfl) T.g_law_comes T.F_law_comes.kp T.b_law_comes .nil pass0 (pa_cons (pe_ix ix_tup (pv 2) pe_int (fun _ _ => rfl)) pa_nil)) pa_nil))))
      (pss_cons (ps_set (i := 4) sc_law.nd rfl (.inl rfl) (pe_lst (pa_cons (pe_call (ok_leads_to T) (hr.mono (by decide)) (by rfl) T.g_leads_to T.F_leads_to.kp T.b_leads_to .nil pass0 (pa_cons (pv 2) pa_nil)) (pa_cons (pe_call (ok_comes_from T) (hr.mono (by decide)) (by rfl) T.g_comes_from T.F_comes_from.kp T.b_comes_from .nil pass0 (pa_cons (pv 2) pa_nil)) pa_nil))))
      (pss_cons (ps_for PassesOwn.never rfl (pi_range1 (by rfl) T.z_range (pa_cons pe_int pa_nil)) (pg_name (i := 5) sc_law.nd rfl (.inl rfl)) (pss_cons (ps_set (i := 6) sc_law.nd rfl (.inl rfl) (pe_lst (pa_cons (pe_call (ok_leads_to T) (hr.mono (by decide)) (by rfl) T.g_leads_to T.F_leads_to.kp T.b_leads_to .nil pass0 (pa_cons (pv 2) pa_nil)) (pa_cons (pe_call (ok_comes_from T) (hr.mono (by decide)) (by rfl) T.g_comes_from T.F_comes_from.kp T.b_comes_from .nil pass0 (pa_cons (pv 2) pa_nil)) pa_nil))))
      (pss_one (ps_for PassesOwn.never rfl (pi_range1 (by rfl) T.z_range (pa_cons pe_int pa_nil)) (pg_name (i := 7) sc_law.nd rfl (.inl rfl)) (pss_cons (ps_if (PW.pt (pw_or (pt_not (pt_val (pe_callB call_isi (by rfl) T.z_isinstance (by decide +kernel) (pa_cons (pe_ix ix_list (pv 6) (pv 7) (fun _ _ => rfl)) (pa_cons (pe_bltn (v := .ty "list") (u := .type "list") (by rfl) T.z_list (by decide +kernel) rfl) pa_nil))))) (pw_or1 (pt_cmpR op_ne (pe_callB (call_reprD rfl hr.units) (by rfl) T.z_repr (by decide +kernel) (pa_cons (pe_ix ix_list (pv 6) (pv 7) (fun _ _ => rfl)) pa_nil)) (pe_callB (call_reprD rfl hr.units) (by rfl) T.z_repr (by decide +kernel) (pa_cons (pe_ix ix_list (pv 3) (pv 7) (fun _ _ => rfl)) pa_nil)) (nomark _))))) (pss_one (ps_ret pe_bl)) pss_nil)
      (pss_cons (ps_for PassesOwn.never rfl (pi_list (pe_ix ix_list (pv 6) (pv 7) (fun _ _ => rfl))) (pg_name (i := 8) sc_law.nd rfl (.inl rfl)) (pss_one (ps_expr (pe_bm PySem.F.plainAttrs_list PySem.F.slot_list_append PySem.F.type_list_append mt_append (pv 8) (pa_cons pe_int pa_nil)))))
      (pss_one (ps_expr (pe_bm PySem.F.plainAttrs_list PySem.F.slot_list_append PySem.F.type_list_append mt_append (pe_ix ix_list (pv 6) (pv 7) (fun _ _ => rfl)) (pa_cons pe_int pa_nil))))))))))
      (pss_one (ps_ret (pe_cmpR op_eq (pe_callB (call_reprD rfl hr.units) (by rfl) T.z_repr (by decide +kernel) (pa_cons (pv 4) pa_nil)) (pe_callB (call_reprD rfl hr.units) (by rfl) T.z_repr (by decide +kernel) (pa_cons (pv 3) pa_nil)) (nomark _))))))))), ?_⟩
  refine ⟨_, rfl, a, ns, rfl, hS, hlen, fun H1 p q s1 np nq S1 => ?_⟩
  have X1 : Ext q p (fun b => b = p) H1 := ⟨S1, rfl, fun b e z => by
    obtain ⟨_, _, _, _, e1, _⟩ := S1
    have e' : b = p := e
    rw [e', e1] at z; cases z⟩
  refine ⟨_, rfl, p, q, _, 9, 1, rfl, X1, by decide, by decide, .inr rfl, fun gv H2 ps ss many nodes es F b2 S2 dg => ?_⟩
  replace dg := dg.dp
  have N := F.nodes (by decide)
  have WO := F.ways (by decide)
  obtain ⟨ga, gxs, gu, rfl, g1, g2, g3⟩ := Dp.item dg (i := 3) rfl
  refine ⟨_, rfl, _, _, _, _, rfl, rfl, g1, g2, gu, nodes, es, rfl, g3, N, fun R1 r1 H3 s3 n3 W1 => ?_⟩
  obtain ⟨ga', gxs', gu', e', g1', g2', g3'⟩ := Dp.item (dg.same s3) (i := 3) rfl
  cases e'
  refine ⟨_, rfl, _, _, _, _, rfl, rfl, g1', g2', gu', nodes, es, rfl, g3', N, fun R2 r2 H4 s4 n4 W2 => ⟨by walk_at "size", fun DU nDU => ?_⟩⟩
  have n9 : nodes.length ≤ 9 := by have := F.most; omega
  have hlX : (es.map tgts).length = nodes.length := by rw [List.length_map, F.len]
  generalize hX : es.map tgts = xss at W1 W2 WO hlX
  have smallX : ∀ xs ∈ xss, xs.length ≤ 100 ∧ ∀ x ∈ xs, Small x := fun xs m => ⟨Nat.le_trans (WO.two xs m) (by decide), fun x hx => by
    have := WO.lt xs m x hx
    unfold Small
    omega⟩
  have smallC : ∀ xs ∈ comes xss, xs.length ≤ 100 ∧ ∀ x ∈ xs, Small x := fun xs m => by
    obtain ⟨b, hb, rfl⟩ := List.mem_map.mp m
    refine ⟨?_, fun x hx => ?_⟩
    · rw [List.length_map]
      exact Nat.le_trans (List.length_filter_le _ _) (by rw [List.length_range]; omega)
    · obtain ⟨k, hk, rfl⟩ := List.mem_map.mp hx
      have := List.mem_range.mp (List.mem_filter.mp hk).1
      unfold Small
      show k < 1000
      omega
  have lC : (comes xss).length = xss.length := by unfold comes; rw [List.length_map, List.length_range]
  obtain ⟨shX, szX, dpX⟩ := shows_rows smallX (by omega)
  obtain ⟨shC, szC, dpC⟩ := shows_rows smallC (by omega)
  have sh2 : Shows (.list [rowsD xss, rowsD (comes xss)]) := shows_two shX shC szX szC dpX dpC
  have s5 := same_new5 (o := .lst [.ref R1, .ref R2]) nDU
  have dDU : Dp K (L2.upd H4 DU (.lst [.ref R1, .ref R2])) (.ref DU) (.list [rowsD xss, rowsD (comes xss)]) := .lst (SqL.of upd_same) (.cons ((W1.dp.same s4).same s5) (.cons (W2.dp.same s5) .nil))
  have dg5 := ((dg.same s3).same s4).same s5
  generalize L2.upd H4 DU (.lst [.ref R1, .ref R2]) = H5 at dDU dg5 ⊢
  clear s5 W1 W2 g1 g2 g3 g1' g2' g3' s3 s4 n3 n4 nDU dg
  refine ⟨_, rfl, _, _, _, _, nodes, es, rfl, dg5, N, fun R3 r3 H6 s6 n6 W3 => ?_⟩
  rw [hX] at W3
  refine ⟨_, rfl, _, _, _, _, nodes, es, rfl, dg5.same s6, N, (by rw [hX]; exact WO), fun R4 r4 H7 s7 n7 W4 => ⟨by walk_at "size", fun FI nFI => ?_⟩⟩
  rw [hX] at W4
  have s8 := same_new5 (o := .lst [.ref R3, .ref R4]) nFI
  have dFI : Dp K (L2.upd H7 FI (.lst [.ref R3, .ref R4])) (.ref FI) (.list [rowsD xss, rowsD (comes xss)]) := .lst (SqL.of upd_same) (.cons ((W3.dp.same s7).same s8) (.cons (W4.dp.same s8) .nil))
  have dDU8 := ((dDU.same s6).same s7).same s8
  have dg8 := ((dg5.same s6).same s7).same s8
  generalize L2.upd H7 FI (.lst [.ref R3, .ref R4]) = H8 at dFI dDU8 dg8 ⊢
  clear s8 W3 W4 s6 s7 n6 n7 nFI dDU dg5
  refine ⟨2, rfl, by decide, by decide, ?_⟩
  refine for_range (n := 2) (fun i σ H' => ∃ y5 y6 y7 y8, σ = [some (.ref a), some (.ref p), some (.ref ga), some (.ref DU), some (.ref FI), y5, y6, y7, y8] ∧ Dp K H' (.ref FI) (.list [rowsD xss, rowsD (comes xss)]) ∧ Dp K H' (.ref DU) (.list [rowsD xss, rowsD (comes xss)]) ∧ Dp K H' (.ref ga) (flowD ps ss many nodes))
    ⟨none, none, none, none, rfl, dFI, dDU8, dg8⟩ ?_ ?_
  · rintro i σ H9 hi ⟨y5, y6, y7, y8, rfl, dF, dD, dG⟩
    refine ⟨_, rfl, _, _, _, _, nodes, es, rfl, dG, N, fun R5 r5 HA sA nA W5 => ?_⟩
    rw [hX] at W5
    refine ⟨_, rfl, _, _, _, _, nodes, es, rfl, dG.same sA, N, (by rw [hX]; exact WO), fun R6 r6 HB sB nB W6 => ⟨by walk_at "size", fun RO nRO => ?_⟩⟩
    rw [hX] at W6
    have sC := same_new5 (o := .lst [.ref R5, .ref R6]) nRO
    have sAC := (sA.trans sB).trans sC
    have W5C := (W5.same sB).same sC
    have W6C := W6.same sC
    have hRO : L2.upd HB RO (.lst [.ref R5, .ref R6]) RO = some (.lst [.ref R5, .ref R6]) := upd_same
    have out5 : RO ∉ R5 :: r5 := (W5.same sB).new nRO
    have out6 : RO ∉ R6 :: r6 := W6.new nRO
    have nRO0 := none_of (sA.trans sB) nRO
    have n6' : ∀ b ∈ R6 :: r6, H9 b = none := fun b hb => none_of sA (nB b hb)
    have apart : ∀ b ∈ R6 :: r6, b ∉ R5 :: r5 := fun b m m2 => by
      have z := nB b m
      rcases List.mem_cons.mp m2 with m2 | m2
      · rw [m2, W5.top] at z; cases z
      · obtain ⟨k, hk, e⟩ := List.getElem_of_mem m2
        have hk2 : k < xss.length := by rw [← W5.len]; exact hk
        have := W5.row k b _ (by rw [List.getElem?_eq_getElem hk, e]) (List.getElem?_eq_getElem hk2)
        rw [z] at this
        cases this
    generalize L2.upd HB RO (.lst [.ref R5, .ref R6]) = HC at sC sAC W5C W6C hRO ⊢
    clear W5 W6 nB sB sA nRO sC
    refine ⟨2, rfl, by decide, by decide, ?_⟩
    refine for_range (n := 2) (fun j σ H' => ∃ y7 y8, σ = [some (.ref a), some (.ref p), some (.ref ga), some (.ref DU), some (.ref FI), some (.int (0 + (i : Nat))), some (.ref RO), y7, y8] ∧ Same H9 H' ∧ H' RO = some (.lst [.ref R5, .ref R6]) ∧ (j = 0 → Rows H' R5 r5 xss) ∧ (j ≤ 1 → Rows H' R6 r6 (comes xss)))
      ⟨y7, y8, rfl, sAC, hRO, (fun _ => W5C), (fun _ => W6C)⟩ ?_ ?_
    · rintro j σ HD hj ⟨y7, y8, rfl, sD, hRO, v5, v6⟩
      have pick : ∃ (R : Addr) (rs : List Addr) (zs : List (List Int)), atI [V.ref R5, V.ref R6] (0 + (j : Int)) = some (.ref R) ∧ Rows HD R rs zs ∧ [rowsD xss, rowsD (comes xss)][j]? = some (rowsD zs) ∧ Shows (rowsD zs) ∧ (∀ xs ∈ zs, xs.length ≤ 100) ∧ zs.length ≤ 100 ∧ RO ∉ R :: rs ∧ (∀ b ∈ R :: rs, H9 b = none) ∧
          ∀ H', (∀ b o, b ∉ R :: rs → HD b = some o → H' b = some o) → (j + 1 = 0 → Rows H' R5 r5 xss) ∧ (j + 1 ≤ 1 → Rows H' R6 r6 (comes xss)) := by
        have : j = 0 ∨ j = 1 := by omega
        rcases this with rfl | rfl
        · exact ⟨R5, r5, xss, rfl, v5 rfl, rfl, shX, fun xs m => (smallX xs m).1, by omega, out5, nA, fun H' o => ⟨fun z => by omega, fun _ => (v6 (by omega)).keep fun b m u e => o b u (apart b m) e⟩⟩
        · exact ⟨R6, r6, comes xss, rfl, v6 (by omega), rfl, shC, fun xs m => (smallC xs m).1, by omega, out6, n6', fun H' o => ⟨fun z => by omega, fun z => by omega⟩⟩
      obtain ⟨R, rs, zs, p1, W, p3, shZ, zl, zn, outR, newR, nxt⟩ := pick
      have tyL : PySem.W.kitOne K (.type "list") (.type "list") = some true := kit_ty (by kernel_rfl)
      obtain ⟨da, dxs, du, de, d1, d2, d3⟩ := Dp.itemL (dD.same sD) p3
      cases de
      obtain ⟨ra, rxs, rfl, _, _⟩ := Dp.lstInv d3
      refine ⟨_, rfl, _, rfl, _, _, _, _, rfl, rfl, SqL.of hRO, p1, _, _, _, _, _, rfl, .ty "list", W.dp.tyx, tyL, _, rfl, iteF ?_⟩
      refine ⟨_, rfl, _, rfl, _, _, _, _, rfl, rfl, SqL.of hRO, p1, R, rowsD zs, rfl, W.dp, shZ.able, shZ.dict, shZ.deep, shZ.size, ?_⟩
      refine ⟨_, rfl, _, rfl, _, _, _, _, rfl, rfl, d1, (by rw [Int.zero_add]; exact d2), ra, rowsD zs, rfl, d3, shZ.able, shZ.dict, shZ.deep, shZ.size, rfl, _, rfl, ?_⟩
      rw [decide_eq_true rfl]
      refine iteF ?_
      refine ⟨_, rfl, _, rfl, _, _, _, _, rfl, rfl, SqL.of hRO, p1, R, rfl, ⟨_, SqL.of W.top⟩, for_list (K := K) (a := R) (xs := rs.map V.ref) (fun m σ H' => ∃ y8 ws, σ = [some (.ref a), some (.ref p), some (.ref ga), some (.ref DU), some (.ref FI), some (.int (0 + (i : Nat))), some (.ref RO), some (.int (0 + (j : Nat))), y8] ∧
          Rows H' R rs ws ∧ ws.length = zs.length ∧ (∀ xs ∈ ws, xs.length ≤ 100 + m) ∧ m ≤ 100 ∧ (∀ b o, b ∉ R :: rs → HD b = some o → H' b = some o))
        ⟨y8, zs, rfl, W, rfl, zl, by omega, fun b o _ e => e⟩ (fun m σ H' _ ⟨_, _, _, w, _⟩ => SqL.of w.top) ?_ ?_⟩
      · rintro m x σ HE hx ⟨y8, ws, rfl, We, wl, wb, wm, we⟩
        have hm : m < rs.length := by
          have := (List.getElem?_eq_some_iff.mp hx).1
          rw [List.length_map] at this
          exact this
        rw [List.getElem?_map, List.getElem?_eq_getElem hm] at hx
        cases hx
        have hmw : m < ws.length := by rw [← We.len]; exact hm
        have rowm := We.row m _ _ (List.getElem?_eq_getElem hm) (List.getElem?_eq_getElem hmw)
        have bd := wb _ (List.getElem_mem hmw)
        have rl := We.len
        refine ⟨_, rfl, .inl ⟨rfl, _, SqL.of rowm⟩, _, _, _, rfl, rfl, rowm, small1000 (by rw [List.length_map]; omega), _, _, rfl, We.app (v := 0) (List.getElem?_eq_getElem hm) (List.getElem?_eq_getElem hmw), by rw [List.length_set]; exact wl, fun xs mx => ?_, by omega, fun b o nb e => ?_⟩
        · rcases List.mem_or_eq_of_mem_set mx with mx | rfl
          · have := wb xs mx; omega
          · rw [List.length_append, List.length_singleton]; omega
        · rw [upd_ne (fun z => nb (by rw [z]; exact .tail _ (List.getElem_mem hm)))]
          exact we b o nb e
      · rintro σ HE ⟨y8, ws, rfl, We, wl, wb, wm, we⟩
        have hRO' := we _ _ outR hRO
        have rl := We.len
        refine ⟨_, rfl, _, rfl, _, _, _, _, rfl, rfl, SqL.of hRO', p1, .inl ⟨rfl, _, SqL.of We.top⟩, _, _, _, rfl, rfl, We.top, small1000 (by rw [List.length_map]; omega), ?_⟩
        have o : ∀ b u, b ∉ R :: rs → HD b = some u → (L2.upd HE R (.lst (rs.map V.ref ++ [.int 0]))) b = some u := fun b u nb e => by
          rw [upd_ne (fun z => nb (by rw [z]; exact .head _))]
          exact we b u nb e
        obtain ⟨q1, q2⟩ := nxt _ o
        refine ⟨_, _, rfl, fun b u hb => o b u (fun m => by rw [newR b m] at hb; cases hb) (sD b u hb), o _ _ outR hRO, q1, q2⟩
    · rintro σ HD ⟨y7, y8, rfl, sD, _⟩
      exact ⟨_, _, _, _, rfl, dF.same sD, dD.same sD, dG.same sD⟩
  · rintro σ H9 ⟨y5, y6, y7, y8, rfl, dF, dD, dG⟩
    refine ⟨_, rfl, FI, _, rfl, dF, sh2.able, sh2.dict, sh2.deep, sh2.size, _, rfl, DU, _, rfl, dD, sh2.able, sh2.dict, sh2.deep, sh2.size, rfl, ?_⟩
    rw [decide_eq_true rfl]
    exact qq _

end
/-! ### what the top has written, the end -/
theorem all_mk {l : PySem.W.OpenLaw} {w : World} {K : PySem.W.Frag} {h : Heap} {mg : Str → Option Value} {fa : Addr} (X : K.In h) (G : h.Ns mainGlobals mg) (hfa : mg "law" = some (.ref fa))
    {ftargets : Addr} {odtargets antargets : Option Addr} {sltargets : Array (Option Value)} {octargets kVtargets dctargets pmtargets cdtargets cttargets : Value}
    {fleads_to : Addr} {odleads_to anleads_to : Option Addr} {slleads_to : Array (Option Value)} {ocleads_to kVleads_to dcleads_to pmleads_to cdleads_to ctleads_to : Value}
    {fcomes_from : Addr} {odcomes_from ancomes_from : Option Addr} {slcomes_from : Array (Option Value)} {occomes_from kVcomes_from dccomes_from pmcomes_from cdcomes_from ctcomes_from : Value}
    {flaw_stream : Addr} {odlaw_stream anlaw_stream : Option Addr} {sllaw_stream : Array (Option Value)} {oclaw_stream kVlaw_stream dclaw_stream pmlaw_stream cdlaw_stream ctlaw_stream : Value}
    {flaw_draw : Addr} {odlaw_draw anlaw_draw : Option Addr} {sllaw_draw : Array (Option Value)} {oclaw_draw kVlaw_draw dclaw_draw pmlaw_draw cdlaw_draw ctlaw_draw : Value}
    {flaw_word : Addr} {odlaw_word anlaw_word : Option Addr} {sllaw_word : Array (Option Value)} {oclaw_word kVlaw_word dclaw_word pmlaw_word cdlaw_word ctlaw_word : Value}
    {flaw_frame : Addr} {odlaw_frame anlaw_frame : Option Addr} {sllaw_frame : Array (Option Value)} {oclaw_frame kVlaw_frame dclaw_frame pmlaw_frame cdlaw_frame ctlaw_frame : Value}
    {flaw_kinds : Addr} {odlaw_kinds anlaw_kinds : Option Addr} {sllaw_kinds : Array (Option Value)} {oclaw_kinds kVlaw_kinds dclaw_kinds pmlaw_kinds cdlaw_kinds ctlaw_kinds : Value}
    {flaw_instruction : Addr} {odlaw_instruction anlaw_instruction : Option Addr} {sllaw_instruction : Array (Option Value)} {oclaw_instruction kVlaw_instruction dclaw_instruction pmlaw_instruction cdlaw_instruction ctlaw_instruction : Value}
    {flaw_ends : Addr} {odlaw_ends anlaw_ends : Option Addr} {sllaw_ends : Array (Option Value)} {oclaw_ends kVlaw_ends dclaw_ends pmlaw_ends cdlaw_ends ctlaw_ends : Value}
    {flaw_flow : Addr} {odlaw_flow anlaw_flow : Option Addr} {sllaw_flow : Array (Option Value)} {oclaw_flow kVlaw_flow dclaw_flow pmlaw_flow cdlaw_flow ctlaw_flow : Value}
    {flaw_leads : Addr} {odlaw_leads anlaw_leads : Option Addr} {sllaw_leads : Array (Option Value)} {oclaw_leads kVlaw_leads dclaw_leads pmlaw_leads cdlaw_leads ctlaw_leads : Value}
    {flaw_comes : Addr} {odlaw_comes anlaw_comes : Option Addr} {sllaw_comes : Array (Option Value)} {oclaw_comes kVlaw_comes dclaw_comes pmlaw_comes cdlaw_comes ctlaw_comes : Value}
    {flaw : Addr} {odlaw anlaw : Option Addr} {sllaw : Array (Option Value)} {oclaw kVlaw dclaw pmlaw cdlaw ctlaw : Value}
    (atargets : PySem.W.nsIn K mainGlobals "targets" = some (some (.ref ftargets)))
    (ltargets : K.lookup ftargets = some ⟨octargets, odtargets, .func (PySem.W.fnOf "targets" "targets" (defArgs s_targets) (defBody s_targets) (defScope s_targets) .none kVtargets dctargets pmtargets antargets cdtargets cttargets), sltargets⟩)
    (ctargets : PySem.W.codeIn K cdtargets "targets" = true)
    (ktargets : PySem.W.keepIn K (.ref ftargets) = true)
    (aleads_to : PySem.W.nsIn K mainGlobals "leads_to" = some (some (.ref fleads_to)))
    (lleads_to : K.lookup fleads_to = some ⟨ocleads_to, odleads_to, .func (PySem.W.fnOf "leads_to" "leads_to" (defArgs s_leads_to) (defBody s_leads_to) (defScope s_leads_to) .none kVleads_to dcleads_to pmleads_to anleads_to cdleads_to ctleads_to), slleads_to⟩)
    (cleads_to : PySem.W.codeIn K cdleads_to "leads_to" = true)
    (kleads_to : PySem.W.keepIn K (.ref fleads_to) = true)
    (acomes_from : PySem.W.nsIn K mainGlobals "comes_from" = some (some (.ref fcomes_from)))
    (lcomes_from : K.lookup fcomes_from = some ⟨occomes_from, odcomes_from, .func (PySem.W.fnOf "comes_from" "comes_from" (defArgs s_comes_from) (defBody s_comes_from) (defScope s_comes_from) .none kVcomes_from dccomes_from pmcomes_from ancomes_from cdcomes_from ctcomes_from), slcomes_from⟩)
    (ccomes_from : PySem.W.codeIn K cdcomes_from "comes_from" = true)
    (kcomes_from : PySem.W.keepIn K (.ref fcomes_from) = true)
    (alaw_stream : PySem.W.nsIn K mainGlobals "_law_stream" = some (some (.ref flaw_stream)))
    (llaw_stream : K.lookup flaw_stream = some ⟨oclaw_stream, odlaw_stream, .func (PySem.W.fnOf "_law_stream" "_law_stream" (defArgs s_law_stream) (defBody s_law_stream) (defScope s_law_stream) .none kVlaw_stream dclaw_stream pmlaw_stream anlaw_stream cdlaw_stream ctlaw_stream), sllaw_stream⟩)
    (claw_stream : PySem.W.codeIn K cdlaw_stream "_law_stream" = true)
    (klaw_stream : PySem.W.keepIn K (.ref flaw_stream) = true)
    (alaw_draw : PySem.W.nsIn K mainGlobals "_law_draw" = some (some (.ref flaw_draw)))
    (llaw_draw : K.lookup flaw_draw = some ⟨oclaw_draw, odlaw_draw, .func (PySem.W.fnOf "_law_draw" "_law_draw" (defArgs s_law_draw) (defBody s_law_draw) (defScope s_law_draw) .none kVlaw_draw dclaw_draw pmlaw_draw anlaw_draw cdlaw_draw ctlaw_draw), sllaw_draw⟩)
    (claw_draw : PySem.W.codeIn K cdlaw_draw "_law_draw" = true)
    (klaw_draw : PySem.W.keepIn K (.ref flaw_draw) = true)
    (alaw_word : PySem.W.nsIn K mainGlobals "_law_word" = some (some (.ref flaw_word)))
    (llaw_word : K.lookup flaw_word = some ⟨oclaw_word, odlaw_word, .func (PySem.W.fnOf "_law_word" "_law_word" (defArgs s_law_word) (defBody s_law_word) (defScope s_law_word) .none kVlaw_word dclaw_word pmlaw_word anlaw_word cdlaw_word ctlaw_word), sllaw_word⟩)
    (claw_word : PySem.W.codeIn K cdlaw_word "_law_word" = true)
    (klaw_word : PySem.W.keepIn K (.ref flaw_word) = true)
    (alaw_frame : PySem.W.nsIn K mainGlobals "_law_frame" = some (some (.ref flaw_frame)))
    (llaw_frame : K.lookup flaw_frame = some ⟨oclaw_frame, odlaw_frame, .func (PySem.W.fnOf "_law_frame" "_law_frame" (defArgs s_law_frame) (defBody s_law_frame) (defScope s_law_frame) .none kVlaw_frame dclaw_frame pmlaw_frame anlaw_frame cdlaw_frame ctlaw_frame), sllaw_frame⟩)
    (claw_frame : PySem.W.codeIn K cdlaw_frame "_law_frame" = true)
    (klaw_frame : PySem.W.keepIn K (.ref flaw_frame) = true)
    (alaw_kinds : PySem.W.nsIn K mainGlobals "_law_kinds" = some (some (.ref flaw_kinds)))
    (llaw_kinds : K.lookup flaw_kinds = some ⟨oclaw_kinds, odlaw_kinds, .func (PySem.W.fnOf "_law_kinds" "_law_kinds" (defArgs s_law_kinds) (defBody s_law_kinds) (defScope s_law_kinds) .none kVlaw_kinds dclaw_kinds pmlaw_kinds anlaw_kinds cdlaw_kinds ctlaw_kinds), sllaw_kinds⟩)
    (claw_kinds : PySem.W.codeIn K cdlaw_kinds "_law_kinds" = true)
    (klaw_kinds : PySem.W.keepIn K (.ref flaw_kinds) = true)
    (alaw_instruction : PySem.W.nsIn K mainGlobals "_law_instruction" = some (some (.ref flaw_instruction)))
    (llaw_instruction : K.lookup flaw_instruction = some ⟨oclaw_instruction, odlaw_instruction, .func (PySem.W.fnOf "_law_instruction" "_law_instruction" (defArgs s_law_instruction) (defBody s_law_instruction) (defScope s_law_instruction) .none kVlaw_instruction dclaw_instruction pmlaw_instruction anlaw_instruction cdlaw_instruction ctlaw_instruction), sllaw_instruction⟩)
    (claw_instruction : PySem.W.codeIn K cdlaw_instruction "_law_instruction" = true)
    (klaw_instruction : PySem.W.keepIn K (.ref flaw_instruction) = true)
    (alaw_ends : PySem.W.nsIn K mainGlobals "_law_ends" = some (some (.ref flaw_ends)))
    (llaw_ends : K.lookup flaw_ends = some ⟨oclaw_ends, odlaw_ends, .func (PySem.W.fnOf "_law_ends" "_law_ends" (defArgs s_law_ends) (defBody s_law_ends) (defScope s_law_ends) .none kVlaw_ends dclaw_ends pmlaw_ends anlaw_ends cdlaw_ends ctlaw_ends), sllaw_ends⟩)
    (claw_ends : PySem.W.codeIn K cdlaw_ends "_law_ends" = true)
    (klaw_ends : PySem.W.keepIn K (.ref flaw_ends) = true)
    (alaw_flow : PySem.W.nsIn K mainGlobals "_law_flow" = some (some (.ref flaw_flow)))
    (llaw_flow : K.lookup flaw_flow = some ⟨oclaw_flow, odlaw_flow, .func (PySem.W.fnOf "_law_flow" "_law_flow" (defArgs s_law_flow) (defBody s_law_flow) (defScope s_law_flow) .none kVlaw_flow dclaw_flow pmlaw_flow anlaw_flow cdlaw_flow ctlaw_flow), sllaw_flow⟩)
    (claw_flow : PySem.W.codeIn K cdlaw_flow "_law_flow" = true)
    (klaw_flow : PySem.W.keepIn K (.ref flaw_flow) = true)
    (alaw_leads : PySem.W.nsIn K mainGlobals "_law_leads" = some (some (.ref flaw_leads)))
    (llaw_leads : K.lookup flaw_leads = some ⟨oclaw_leads, odlaw_leads, .func (PySem.W.fnOf "_law_leads" "_law_leads" (defArgs s_law_leads) (defBody s_law_leads) (defScope s_law_leads) .none kVlaw_leads dclaw_leads pmlaw_leads anlaw_leads cdlaw_leads ctlaw_leads), sllaw_leads⟩)
    (claw_leads : PySem.W.codeIn K cdlaw_leads "_law_leads" = true)
    (klaw_leads : PySem.W.keepIn K (.ref flaw_leads) = true)
    (alaw_comes : PySem.W.nsIn K mainGlobals "_law_comes" = some (some (.ref flaw_comes)))
    (llaw_comes : K.lookup flaw_comes = some ⟨oclaw_comes, odlaw_comes, .func (PySem.W.fnOf "_law_comes" "_law_comes" (defArgs s_law_comes) (defBody s_law_comes) (defScope s_law_comes) .none kVlaw_comes dclaw_comes pmlaw_comes anlaw_comes cdlaw_comes ctlaw_comes), sllaw_comes⟩)
    (claw_comes : PySem.W.codeIn K cdlaw_comes "_law_comes" = true)
    (klaw_comes : PySem.W.keepIn K (.ref flaw_comes) = true)
    (alaw : PySem.W.nsIn K mainGlobals "law" = some (some (.ref flaw)))
    (llaw : K.lookup flaw = some ⟨oclaw, odlaw, .func (PySem.W.fnOf "law" "law" (defArgs s_law) (defBody s_law) (defScope s_law) .none kVlaw dclaw pmlaw anlaw cdlaw ctlaw), sllaw⟩)
    (claw : PySem.W.codeIn K cdlaw "law" = true)
    (klaw : PySem.W.keepIn K (.ref flaw) = true)
    (zabs : PySem.W.nsIn K mainGlobals "abs" = some none)
    (zenumerate : PySem.W.nsIn K mainGlobals "enumerate" = some none)
    (zint : PySem.W.nsIn K mainGlobals "int" = some none)
    (zisinstance : PySem.W.nsIn K mainGlobals "isinstance" = some none)
    (zlen : PySem.W.nsIn K mainGlobals "len" = some none)
    (zlist : PySem.W.nsIn K mainGlobals "list" = some none)
    (zmax : PySem.W.nsIn K mainGlobals "max" = some none)
    (zrange : PySem.W.nsIn K mainGlobals "range" = some none)
    (zrepr : PySem.W.nsIn K mainGlobals "repr" = some none)
    (ztuple : PySem.W.nsIn K mainGlobals "tuple" = some none) :
    ∃ fd : FuncData, (∀ (s : Shared) (v : Value), BindsTo s fd ⟨[v], []⟩ [("script", v)]) ∧ LawRun l.prog w K mg fa fd "script" 63 := by
  have e := hfa.symm.trans (PySem.W.mg_of X G alaw)
  cases e
  let T : Tx w K mg := {
    a_targets := ftargets,
    d_targets := _,
    F_targets := fun_mk (st := s_targets) ltargets ctargets ktargets,
    b_targets := (fun_mk (st := s_targets) ltargets ctargets ktargets).binds (ps := ["end"]) fun _ _ _ _ _ _ us hl => match us, hl with | [_], _ => rfl,
    g_targets := PySem.W.mg_of X G atargets,
    a_leads_to := fleads_to,
    d_leads_to := _,
    F_leads_to := fun_mk (st := s_leads_to) lleads_to cleads_to kleads_to,
    b_leads_to := (fun_mk (st := s_leads_to) lleads_to cleads_to kleads_to).binds (ps := ["graph"]) fun _ _ _ _ _ _ us hl => match us, hl with | [_], _ => rfl,
    g_leads_to := PySem.W.mg_of X G aleads_to,
    a_comes_from := fcomes_from,
    d_comes_from := _,
    F_comes_from := fun_mk (st := s_comes_from) lcomes_from ccomes_from kcomes_from,
    b_comes_from := (fun_mk (st := s_comes_from) lcomes_from ccomes_from kcomes_from).binds (ps := ["graph"]) fun _ _ _ _ _ _ us hl => match us, hl with | [_], _ => rfl,
    g_comes_from := PySem.W.mg_of X G acomes_from,
    a_law_stream := flaw_stream,
    d_law_stream := _,
    F_law_stream := fun_mk (st := s_law_stream) llaw_stream claw_stream klaw_stream,
    b_law_stream := (fun_mk (st := s_law_stream) llaw_stream claw_stream klaw_stream).binds (ps := ["script"]) fun _ _ _ _ _ _ us hl => match us, hl with | [_], _ => rfl,
    g_law_stream := PySem.W.mg_of X G alaw_stream,
    a_law_draw := flaw_draw,
    d_law_draw := _,
    F_law_draw := fun_mk (st := s_law_draw) llaw_draw claw_draw klaw_draw,
    b_law_draw := (fun_mk (st := s_law_draw) llaw_draw claw_draw klaw_draw).binds (ps := ["stream", "many"]) fun _ _ _ _ _ _ us hl => match us, hl with | [_, _], _ => rfl,
    g_law_draw := PySem.W.mg_of X G alaw_draw,
    a_law_word := flaw_word,
    d_law_word := _,
    F_law_word := fun_mk (st := s_law_word) llaw_word claw_word klaw_word,
    b_law_word := (fun_mk (st := s_law_word) llaw_word claw_word klaw_word).binds (ps := ["stream"]) fun _ _ _ _ _ _ us hl => match us, hl with | [_], _ => rfl,
    g_law_word := PySem.W.mg_of X G alaw_word,
    a_law_frame := flaw_frame,
    d_law_frame := _,
    F_law_frame := fun_mk (st := s_law_frame) llaw_frame claw_frame klaw_frame,
    b_law_frame := (fun_mk (st := s_law_frame) llaw_frame claw_frame klaw_frame).binds (ps := ["stream"]) fun _ _ _ _ _ _ us hl => match us, hl with | [_], _ => rfl,
    g_law_frame := PySem.W.mg_of X G alaw_frame,
    a_law_kinds := flaw_kinds,
    d_law_kinds := _,
    F_law_kinds := fun_mk (st := s_law_kinds) llaw_kinds claw_kinds klaw_kinds,
    b_law_kinds := (fun_mk (st := s_law_kinds) llaw_kinds claw_kinds klaw_kinds).binds (ps := ["frame", "kind"]) fun _ _ _ _ _ _ us hl => match us, hl with | [_, _], _ => rfl,
    g_law_kinds := PySem.W.mg_of X G alaw_kinds,
    a_law_instruction := flaw_instruction,
    d_law_instruction := _,
    F_law_instruction := fun_mk (st := s_law_instruction) llaw_instruction claw_instruction klaw_instruction,
    b_law_instruction := (fun_mk (st := s_law_instruction) llaw_instruction claw_instruction klaw_instruction).binds (ps := ["stream", "many", "frame", "waits"]) fun _ _ _ _ _ _ us hl => match us, hl with | [_, _, _, _], _ => rfl,
    g_law_instruction := PySem.W.mg_of X G alaw_instruction,
    a_law_ends := flaw_ends,
    d_law_ends := _,
    F_law_ends := fun_mk (st := s_law_ends) llaw_ends claw_ends klaw_ends,
    b_law_ends := (fun_mk (st := s_law_ends) llaw_ends claw_ends klaw_ends).binds (ps := ["stream", "count", "many"]) fun _ _ _ _ _ _ us hl => match us, hl with | [_, _, _], _ => rfl,
    g_law_ends := PySem.W.mg_of X G alaw_ends,
    a_law_flow := flaw_flow,
    d_law_flow := _,
    F_law_flow := fun_mk (st := s_law_flow) llaw_flow claw_flow klaw_flow,
    b_law_flow := (fun_mk (st := s_law_flow) llaw_flow claw_flow klaw_flow).binds (ps := ["stream", "most", "waits"]) fun _ _ _ _ _ _ us hl => match us, hl with | [_, _, _], _ => rfl,
    g_law_flow := PySem.W.mg_of X G alaw_flow,
    a_law_leads := flaw_leads,
    d_law_leads := _,
    F_law_leads := fun_mk (st := s_law_leads) llaw_leads claw_leads klaw_leads,
    b_law_leads := (fun_mk (st := s_law_leads) llaw_leads claw_leads klaw_leads).binds (ps := ["nodes"]) fun _ _ _ _ _ _ us hl => match us, hl with | [_], _ => rfl,
    g_law_leads := PySem.W.mg_of X G alaw_leads,
    a_law_comes := flaw_comes,
    d_law_comes := _,
    F_law_comes := fun_mk (st := s_law_comes) llaw_comes claw_comes klaw_comes,
    b_law_comes := (fun_mk (st := s_law_comes) llaw_comes claw_comes klaw_comes).binds (ps := ["nodes"]) fun _ _ _ _ _ _ us hl => match us, hl with | [_], _ => rfl,
    g_law_comes := PySem.W.mg_of X G alaw_comes,
    a_law := fa,
    d_law := _,
    F_law := fun_mk (st := s_law) llaw claw klaw,
    g_law := PySem.W.mg_of X G alaw,
    z_abs := PySem.W.mg_none_of X G zabs,
    z_enumerate := PySem.W.mg_none_of X G zenumerate,
    z_int := PySem.W.mg_none_of X G zint,
    z_isinstance := PySem.W.mg_none_of X G zisinstance,
    z_len := PySem.W.mg_none_of X G zlen,
    z_list := PySem.W.mg_none_of X G zlist,
    z_max := PySem.W.mg_none_of X G zmax,
    z_range := PySem.W.mg_none_of X G zrange,
    z_repr := PySem.W.mg_none_of X G zrepr,
    z_tuple := PySem.W.mg_none_of X G ztuple }
  exact ⟨_, fun s v => .of_eq rfl, ok_law T⟩
end D7
open PySem PySem.W PyProof.Rows
set_option maxRecDepth 100000 in
set_option maxHeartbeats 0 in
theorem PySem.Challenge.cw_drawloom_k22_ways_of_graphs_holds : PySem.Challenge.rw_drawloom_k22_ways_of_graphs.Holds := by
  w_on; o_law; k_head; (case hw => w_witness2)
  k_fill
  refine L2.walk_at_place (l := PySem.Challenge.rw_drawloom_k22_ways_of_graphs) (n := 63) (x := "script") rfl (by decide) rfl (fun w h Y => PySem.W.kIn_of Y) ?F
  case F =>
    intro w mg fa h KX G hmg
    refine' D7.all_mk KX G hmg ?atargets ?ltargets ?ctargets ?ktargets ?aleads_to ?lleads_to ?cleads_to ?kleads_to ?acomes_from ?lcomes_from ?ccomes_from ?kcomes_from ?alaw_stream ?llaw_stream ?claw_stream ?klaw_stream ?alaw_draw ?llaw_draw ?claw_draw ?klaw_draw ?alaw_word ?llaw_word ?claw_word ?klaw_word ?alaw_frame ?llaw_frame ?claw_frame ?klaw_frame ?alaw_kinds ?llaw_kinds ?claw_kinds ?klaw_kinds ?alaw_instruction ?llaw_instruction ?claw_instruction ?klaw_instruction ?alaw_ends ?llaw_ends ?claw_ends ?klaw_ends ?alaw_flow ?llaw_flow ?claw_flow ?klaw_flow ?alaw_leads ?llaw_leads ?claw_leads ?klaw_leads ?alaw_comes ?llaw_comes ?claw_comes ?klaw_comes ?alaw ?llaw ?claw ?klaw ?zabs ?zenumerate ?zint ?zisinstance ?zlen ?zlist ?zmax ?zrange ?zrepr ?ztuple
    (case atargets => k_is)
    (case ltargets => k_is)
    (case ctargets => k_is)
    (case ktargets => k_is)
    (case aleads_to => k_is)
    (case lleads_to => k_is)
    (case cleads_to => k_is)
    (case kleads_to => k_is)
    (case acomes_from => k_is)
    (case lcomes_from => k_is)
    (case ccomes_from => k_is)
    (case kcomes_from => k_is)
    (case alaw_stream => k_is)
    (case llaw_stream => k_is)
    (case claw_stream => k_is)
    (case klaw_stream => k_is)
    (case alaw_draw => k_is)
    (case llaw_draw => k_is)
    (case claw_draw => k_is)
    (case klaw_draw => k_is)
    (case alaw_word => k_is)
    (case llaw_word => k_is)
    (case claw_word => k_is)
    (case klaw_word => k_is)
    (case alaw_frame => k_is)
    (case llaw_frame => k_is)
    (case claw_frame => k_is)
    (case klaw_frame => k_is)
    (case alaw_kinds => k_is)
    (case llaw_kinds => k_is)
    (case claw_kinds => k_is)
    (case klaw_kinds => k_is)
    (case alaw_instruction => k_is)
    (case llaw_instruction => k_is)
    (case claw_instruction => k_is)
    (case klaw_instruction => k_is)
    (case alaw_ends => k_is)
    (case llaw_ends => k_is)
    (case claw_ends => k_is)
    (case klaw_ends => k_is)
    (case alaw_flow => k_is)
    (case llaw_flow => k_is)
    (case claw_flow => k_is)
    (case klaw_flow => k_is)
    (case alaw_leads => k_is)
    (case llaw_leads => k_is)
    (case claw_leads => k_is)
    (case klaw_leads => k_is)
    (case alaw_comes => k_is)
    (case llaw_comes => k_is)
    (case claw_comes => k_is)
    (case klaw_comes => k_is)
    (case alaw => k_is)
    (case llaw => k_is)
    (case claw => k_is)
    (case klaw => k_is)
    (case zabs => k_is)
    (case zenumerate => k_is)
    (case zint => k_is)
    (case zisinstance => k_is)
    (case zlen => k_is)
    (case zlist => k_is)
    (case zmax => k_is)
    (case zrange => k_is)
    (case zrepr => k_is)
    (case ztuple => k_is)
#print axioms PySem.Challenge.cw_drawloom_k22_ways_of_graphs_holds
