import PyProof.Rows.All
import Wide.All
import OpenK.AllK
import Wide.FinOn
import HandS.ForMost
import HandS.ForExc
import HandS.Wide
import HandS.IsInst
import HandS.More
import HandS.Codes
import HandS.Walk
import HandS.TryOnly
import HandS.Strs
import HandS.Zip
import HandS.TupAny
import HandS.TupMul
import HandS.ExcIs
import HandS.DictComp
import KE.RegKIsAll
import HandS.CallLocal
import KE.KBits
import PySem.Challenge.RW_drawloom_k61_lanes
set_option Elab.async false
set_option linter.all false
set_option maxRecDepth 100000
/-! Flow graphs. -/
namespace L2
open PySem PySem.Spec PyProof.Rows
/-! ### data: what a value is, whatever stands where -/
theorem Same.sqt {K : PySem.W.Frag} {H H' : Hp} {a : Addr} {xs : List V} (e : Same H H') (h : SqT K H a xs) : SqT K H' a xs := by
  rcases h with (h | ⟨o, h⟩) | h
  · exact .inl (.inl (e _ _ h))
  · exact .inl (.inr ⟨o, e _ _ h⟩)
  · exact .inr h
/-- what stands outside of M stands as before -/
def Off (M : Addr → Prop) (H H' : Hp) : Prop := ∀ b o, ¬ M b → H b = some o → H' b = some o
theorem Off.refl {M : Addr → Prop} {H : Hp} : Off M H H := fun _ _ _ h => h
theorem Off.trans {M : Addr → Prop} {H H1 H2 : Hp} (a : Off M H H1) (b : Off M H1 H2) : Off M H H2 := fun c o n h => b c o n (a c o n h)
theorem Off.of {M : Addr → Prop} {H H' : Hp} (h : Same H H') : Off M H H' := fun b o _ e => h b o e
theorem Off.mono {M N : Addr → Prop} {H H' : Hp} (h : Off M H H') (s : ∀ b, M b → N b) : Off N H H' := fun b o n e => h b o (fun m => n (s b m)) e
/-- a list, a tuple that is read and is not in M -/
def SqLM (M : Addr → Prop) (K : PySem.W.Frag) (H : Hp) (a : Addr) (xs : List V) : Prop :=
  (¬ M a ∧ Rd H a (.lst xs)) ∨ ∃ (o : Obj) (its : Array Value) (n : Nat), K.lookup a = some o ∧ o.cls = .type "list" ∧ o.dict = none ∧ o.data = .seq its n ∧ its.size ≤ sizeLine ∧ Vals xs its.toList
def SqTM (M : Addr → Prop) (K : PySem.W.Frag) (H : Hp) (a : Addr) (xs : List V) : Prop :=
  (¬ M a ∧ Rd H a (.tup xs)) ∨ ∃ (o : Obj) (its : Array Value) (n : Nat), K.lookup a = some o ∧ o.cls = .type "tuple" ∧ o.data = .seq its n ∧ its.size ≤ sizeLine ∧ Vals xs its.toList
theorem SqLM.sq {M : Addr → Prop} {K : PySem.W.Frag} {H : Hp} {a : Addr} {xs : List V} (h : SqLM M K H a xs) : SqL K H a xs := by
  rcases h with ⟨_, h⟩ | h
  · exact .inl h
  · exact .inr h
theorem SqTM.sq {M : Addr → Prop} {K : PySem.W.Frag} {H : Hp} {a : Addr} {xs : List V} (h : SqTM M K H a xs) : SqT K H a xs := by
  rcases h with ⟨_, h⟩ | h
  · exact .inl h
  · exact .inr h
theorem Rd.off {M : Addr → Prop} {H H' : Hp} {a : Addr} {u : HO} (e : Off M H H') (n : ¬ M a) (h : Rd H a u) : Rd H' a u := by
  rcases h with h | ⟨o, h⟩
  · exact .inl (e _ _ n h)
  · exact .inr ⟨o, e _ _ n h⟩
theorem Rd.some {H : Hp} {a : Addr} {u : HO} (h : Rd H a u) : H a ≠ none := by
  rcases h with h | ⟨o, h⟩ <;> rw [h] <;> intro z <;> cases z
theorem SqLM.off {M : Addr → Prop} {K : PySem.W.Frag} {H H' : Hp} {a : Addr} {xs : List V} (e : Off M H H') (h : SqLM M K H a xs) : SqLM M K H' a xs := by
  rcases h with ⟨n, h⟩ | h
  · exact .inl ⟨n, Rd.off e n h⟩
  · exact .inr h
theorem SqTM.off {M : Addr → Prop} {K : PySem.W.Frag} {H H' : Hp} {a : Addr} {xs : List V} (e : Off M H H') (h : SqTM M K H a xs) : SqTM M K H' a xs := by
  rcases h with ⟨n, h⟩ | h
  · exact .inl ⟨n, Rd.off e n h⟩
  · exact .inr h
theorem SqLM.more {M N : Addr → Prop} {K : PySem.W.Frag} {H : Hp} {a : Addr} {xs : List V} (s : ∀ b, N b → M b ∨ H b = none) (h : SqLM M K H a xs) : SqLM N K H a xs := by
  rcases h with ⟨n, h⟩ | h
  · exact .inl ⟨fun z => (s _ z).elim n h.some, h⟩
  · exact .inr h
theorem SqTM.more {M N : Addr → Prop} {K : PySem.W.Frag} {H : Hp} {a : Addr} {xs : List V} (s : ∀ b, N b → M b ∨ H b = none) (h : SqTM M K H a xs) : SqTM N K H a xs := by
  rcases h with ⟨n, h⟩ | h
  · exact .inl ⟨fun z => (s _ z).elim n h.some, h⟩
  · exact .inr h
mutual
/-- data none of whose objects is in M -/
inductive Dt (M : Addr → Prop) (K : PySem.W.Frag) (H : Hp) : V → PyData → Prop
  | non : Dt M K H .non .none
  | bl (b : Bool) : Dt M K H (.bl b) (.bool b)
  | int (i : Int) : Dt M K H (.int i) (.int i)
  | str (x : Str) : Dt M K H (.str x) (.str x)
  | lst {a : Addr} {xs : List V} {ds : List PyData} : SqLM M K H a xs → DtAll M K H xs ds → Dt M K H (.ref a) (.list ds)
  | tup {a : Addr} {xs : List V} {ds : List PyData} : SqTM M K H a xs → DtAll M K H xs ds → Dt M K H (.ref a) (.tuple ds)
inductive DtAll (M : Addr → Prop) (K : PySem.W.Frag) (H : Hp) : List V → List PyData → Prop
  | nil : DtAll M K H [] []
  | cons {v : V} {vs : List V} {d : PyData} {ds : List PyData} : Dt M K H v d → DtAll M K H vs ds → DtAll M K H (v :: vs) (d :: ds)
end
theorem SqL.off {M : Addr → Prop} {K : PySem.W.Frag} {H H' : Hp} {a : Addr} {xs : List V} (e : Off M H H') (n : ¬ M a) (h : SqL K H a xs) : SqL K H' a xs := by
  rcases h with (h | ⟨o, h⟩) | h
  · exact .inl (.inl (e _ _ n h))
  · exact .inl (.inr ⟨o, e _ _ n h⟩)
  · exact .inr h
theorem SqT.off {M : Addr → Prop} {K : PySem.W.Frag} {H H' : Hp} {a : Addr} {xs : List V} (e : Off M H H') (n : ¬ M a) (h : SqT K H a xs) : SqT K H' a xs := by
  rcases h with (h | ⟨o, h⟩) | h
  · exact .inl (.inl (e _ _ n h))
  · exact .inl (.inr ⟨o, e _ _ n h⟩)
  · exact .inr h
section
variable {M N : Addr → Prop} {K : PySem.W.Frag} {H H' : Hp}
mutual
theorem Dt.off (e : Off M H H') : ∀ {v : V} {d : PyData}, Dt M K H v d → Dt M K H' v d
  | _, _, .non => .non
  | _, _, .bl b => .bl b
  | _, _, .int i => .int i
  | _, _, .str x => .str x
  | _, _, .lst h r => .lst (h.off e) (DtAll.off e r)
  | _, _, .tup h r => .tup (h.off e) (DtAll.off e r)
theorem DtAll.off (e : Off M H H') : ∀ {vs : List V} {ds : List PyData}, DtAll M K H vs ds → DtAll M K H' vs ds
  | _, _, .nil => .nil
  | _, _, .cons h r => .cons (Dt.off e h) (DtAll.off e r)
end
mutual
theorem Dt.more (s : ∀ b, N b → M b ∨ H b = none) : ∀ {v : V} {d : PyData}, Dt M K H v d → Dt N K H v d
  | _, _, .non => .non
  | _, _, .bl b => .bl b
  | _, _, .int i => .int i
  | _, _, .str x => .str x
  | _, _, .lst h r => .lst (h.more s) (DtAll.more s r)
  | _, _, .tup h r => .tup (h.more s) (DtAll.more s r)
theorem DtAll.more (s : ∀ b, N b → M b ∨ H b = none) : ∀ {vs : List V} {ds : List PyData}, DtAll M K H vs ds → DtAll N K H vs ds
  | _, _, .nil => .nil
  | _, _, .cons h r => .cons (Dt.more s h) (DtAll.more s r)
end
mutual
theorem Dt.dp : ∀ {v : V} {d : PyData}, Dt M K H v d → Dp K H v d
  | _, _, .non => .non
  | _, _, .bl b => .bl b
  | _, _, .int i => .int i
  | _, _, .str x => .str x
  | _, _, .lst h r => .lst h.sq (DtAll.dp r)
  | _, _, .tup h r => .tup h.sq (DtAll.dp r)
theorem DtAll.dp : ∀ {vs : List V} {ds : List PyData}, DtAll M K H vs ds → DpAll K H vs ds
  | _, _, .nil => .nil
  | _, _, .cons h r => .cons (Dt.dp h) (DtAll.dp r)
end
mutual
theorem Dp.same (e : Same H H') : ∀ {v : V} {d : PyData}, Dp K H v d → Dp K H' v d
  | _, _, .non => .non
  | _, _, .bl b => .bl b
  | _, _, .int i => .int i
  | _, _, .str x => .str x
  | _, _, .lst h r => .lst (e.seq h) (DpAll.same e r)
  | _, _, .tup h r => .tup (Same.sqt e h) (DpAll.same e r)
theorem DpAll.same (e : Same H H') : ∀ {vs : List V} {ds : List PyData}, DpAll K H vs ds → DpAll K H' vs ds
  | _, _, .nil => .nil
  | _, _, .cons h r => .cons (Dp.same e h) (DpAll.same e r)
end
theorem DpAll.len : ∀ {vs : List V} {ds : List PyData}, DpAll K H vs ds → vs.length = ds.length
  | _, _, .nil => rfl
  | _, _, .cons _ r => congrArg (· + 1) (DpAll.len r)
theorem DtAll.len {vs : List V} {ds : List PyData} (h : DtAll M K H vs ds) : vs.length = ds.length := DpAll.len (DtAll.dp h)
theorem DpAll.get : ∀ {vs : List V} {ds : List PyData} {i : Nat} {v : V}, DpAll K H vs ds → vs[i]? = some v → ∃ d, ds[i]? = some d ∧ Dp K H v d
  | _, _, _, _, .nil, e => by simp at e
  | _, _, 0, _, .cons h _, e => ⟨_, rfl, by cases e; exact h⟩
  | _, _, i + 1, _, .cons _ r, e => DpAll.get (i := i) r e
theorem DpAll.at : ∀ {vs : List V} {ds : List PyData} {i : Nat} {d : PyData}, DpAll K H vs ds → ds[i]? = some d → ∃ v, vs[i]? = some v ∧ Dp K H v d
  | _, _, _, _, .nil, e => by simp at e
  | _, _, 0, _, .cons h _, e => ⟨_, rfl, by cases e; exact h⟩
  | _, _, i + 1, _, .cons _ r, e => DpAll.at (i := i) r e
theorem DtAll.get : ∀ {vs : List V} {ds : List PyData} {i : Nat} {v : V}, DtAll M K H vs ds → vs[i]? = some v → ∃ d, ds[i]? = some d ∧ Dt M K H v d
  | _, _, _, _, .nil, e => by simp at e
  | _, _, 0, _, .cons h _, e => ⟨_, rfl, by cases e; exact h⟩
  | _, _, i + 1, _, .cons _ r, e => DtAll.get (i := i) r e
theorem DtAll.at : ∀ {vs : List V} {ds : List PyData} {i : Nat} {d : PyData}, DtAll M K H vs ds → ds[i]? = some d → ∃ v, vs[i]? = some v ∧ Dt M K H v d
  | _, _, _, _, .nil, e => by simp at e
  | _, _, 0, _, .cons h _, e => ⟨_, rfl, by cases e; exact h⟩
  | _, _, i + 1, _, .cons _ r, e => DtAll.at (i := i) r e
theorem DtAll.app : ∀ {vs us : List V} {ds es : List PyData}, DtAll M K H vs ds → DtAll M K H us es → DtAll M K H (vs ++ us) (ds ++ es)
  | _, _, _, _, .nil, h => h
  | _, _, _, _, .cons h r, q => .cons h (DtAll.app r q)
theorem DtAll.take : ∀ {vs : List V} {ds : List PyData} (n : Nat), DtAll M K H vs ds → DtAll M K H (vs.take n) (ds.take n)
  | _, _, 0, _ => .nil
  | _, _, _ + 1, .nil => .nil
  | _, _, n + 1, .cons h r => .cons h (DtAll.take n r)
theorem DtAll.drop : ∀ {vs : List V} {ds : List PyData} (n : Nat), DtAll M K H vs ds → DtAll M K H (vs.drop n) (ds.drop n)
  | _, _, 0, h => h
  | _, _, _ + 1, .nil => .nil
  | _, _, n + 1, .cons _ r => DtAll.drop n r
theorem DtAll.rep {v : V} {d : PyData} (h : Dt M K H v d) : ∀ n : Nat, DtAll M K H (List.replicate n v) (List.replicate n d)
  | 0 => .nil
  | n + 1 => .cons h (DtAll.rep h n)
/-- a tuple that was just laid -/
theorem Dt.laid {a : Addr} {xs : List V} {ds : List PyData} (n : ¬ M a) (h : H a = some (.tup xs)) (r : DtAll M K H xs ds) : Dt M K H (.ref a) (.tuple ds) := .tup (.inl ⟨n, .inl h⟩) r
theorem Dt.laidL {a : Addr} {xs : List V} {ds : List PyData} (n : ¬ M a) (h : H a = some (.lst xs)) (r : DtAll M K H xs ds) : Dt M K H (.ref a) (.list ds) := .lst (.inl ⟨n, .inl h⟩) r
theorem DtAll.ints : ∀ xs : List Int, DtAll M K H (xs.map V.int) (xs.map PyData.int)
  | [] => .nil
  | x :: r => .cons (.int x) (DtAll.ints r)
/-- a type's name -/
def tyN : PyData → String
  | .none => "NoneType"
  | .bool _ => "bool"
  | .int _ => "int"
  | .str _ => "str"
  | .list _ => "list"
  | .tuple _ => "tuple"
  | .dict _ => "dict"
theorem Dp.tyx : ∀ {v : V} {d : PyData}, Dp K H v d → TyX K H v (.type (tyN d))
  | _, _, .non => .base .non
  | _, _, .bl b => .base (.bl b)
  | _, _, .int i => .base (.int i)
  | _, _, .str x => .base (.str x)
  | _, _, .lst (.inl (.inl h)) _ => .base (.lst h)
  | _, _, .lst (.inl (.inr ⟨_, h⟩)) _ => .base (.frz h)
  | _, _, .lst (.inr ⟨_, _, _, h, c, _⟩) _ => .kList h c
  | _, _, .tup (.inl (.inl h)) _ => .base (.tup h)
  | _, _, .tup (.inl (.inr ⟨_, h⟩)) _ => .fTuple h
  | _, _, .tup (.inr ⟨_, _, _, h, c, _⟩) _ => .kTuple h c
end
def isTup : PyData → Bool
  | .tuple _ => true
  | _ => false
def isStr : PyData → Bool
  | .str _ => true
  | _ => false
def isBool : PyData → Bool
  | .bool _ => true
  | _ => false
def isInt : PyData → Bool
  | .bool _ | .int _ => true
  | _ => false
theorem kit_tup {K : PySem.W.Frag} (d : PyData) : PySem.W.kitOne K (.type (tyN d)) (.type "tuple") = some (isTup d) := by
  cases d <;> exact kit_ty (by kernel_rfl)
theorem kit_int {K : PySem.W.Frag} (d : PyData) : PySem.W.kitOne K (.type (tyN d)) (.type "int") = some (isInt d) := by
  cases d <;> exact kit_ty (by kernel_rfl)
theorem kit_bool {K : PySem.W.Frag} (d : PyData) : PySem.W.kitOne K (.type (tyN d)) (.type "bool") = some (isBool d) := by
  cases d <;> exact kit_ty (by kernel_rfl)
theorem kit_str {K : PySem.W.Frag} (d : PyData) : PySem.W.kitOne K (.type (tyN d)) (.type "str") = some (isStr d) := by
  cases d <;> exact kit_ty (by kernel_rfl)
end L2

namespace L2
open PySem PySem.Spec PyProof.Rows
/-! ### repr of data: the law's own def runs where nothing is being shown -/
section
variable {P : Program} {w : World} {K : PySem.W.Frag} {mg : Str → Option Value} {base : Heap}
/-- the call of a def, at one place -/
theorem Fun.runAt {x qual : Str} {st : Stmt} {f : Addr} {fd : FuncData} {N ps : List Str} {k : Nat} (F : Fun K x qual st f fd) (S : FnScope N ps (defScope st))
    {A : Around} {outer : List Env} {s : Shared} {H : Hp} {args : Args} {us : List Value} {vs : List V} {Q : VK} {E : XK} (room : Room (k + 1) A) (en : Env0 P w K mg base A outer s H)
    (bi : BindsTo s fd args (ps.zip us)) (rel : Vals vs us) (many : vs.length = ps.length)
    (walk : ∀ cdv : Value, Room k (A.deeper (envOfC qual (defScope st) s.heap.objs.size f cdv)) →
      ∃ t, PSs (cxOf CX0 P w K mg base N qual (defScope st) f cdv A outer s H E).nox (defBody st) t ∧ t { nx := fun _ h => Q .non h, rt := Q } (start N vs) H) :
    codeAny (model P w) A (.call (.ref f) args) (CR CX0 outer P w H s Q E) s := by
  obtain ⟨oc, od, kV, doc, pm, an, cdv, ct, osl, rfl, look, rec⟩ := F.ex
  have inK : K.In s.heap := en.mod.kin.keeps fun c u z => (en.bs c u z).1
  have free : s.heap.NoLimit := en.mod.nolimit.keeps fun c u z => (en.bs c u z).1
  refine codeAny_call_function room.depth (inK _ _ look) rfl S.co S.gen rfl (PySem.W.codeRec_of inK rec) (bi _ _ _ _ ?_)
  refine wpAny_newFunctionEnv_cells S.kind (fun ⟨n, v⟩ hy => (S.par n (List.of_mem_zip hy).1).elim .inl fun q => .inr ⟨q, PySem.W.cellsFrom_some _ _ _ (.inl q)⟩) fun env he s1 born => ?_
  subst he
  refine ⟨free.keeps born.toInCall.keep, codeAny_func ?_⟩
  obtain ⟨t, good, go⟩ := walk cdv (room.deeper _)
  refine wpAny_mono (good.nox.run [] s1 (start N vs) H _ (inv_start S room.hd en many rel born) go) (fun fl s2 hs => ?_) fun _ _ hs => hs
  match fl, hs with
  | .ret u, ⟨v, σ2, H2, J, rv, q⟩ => exact ⟨v, H2, J.os, J.bare, J.base, J.hok, rv, q⟩
  | .next, ⟨σ2, H2, J, q⟩ => exact ⟨V.non, H2, J.os, J.bare, J.base, J.hok, rfl, q⟩
  | .brk, ⟨_, _, _, q⟩ => exact False.elim q
  | .cont, ⟨_, _, _, q⟩ => exact False.elim q
end
end L2
namespace L2
open PySem PySem.Spec PyProof.Rows
section
variable {X : Cx}
/-- repr(x) of a list of data, where nothing is being shown -/
def rRepr (K : PySem.W.Frag) : List V → Hp → VK → Prop := fun xs H Q => ∃ (a : Addr) (d : PyData), xs = [.ref a] ∧ Dp K H (.ref a) d ∧ d.showable = true ∧ d.hasDict = false ∧ d.depth ≤ 60 ∧ d.shown.length ≤ sizeLine ∧ Q (.str d.shown) H
theorem call_reprD (quiet : X.A.guards = some []) (room : X.A.units + 64 < cLine) : CallR X (.builtin "repr") (rRepr X.K) := by
  intro pins s σ H xs us Q I r h
  obtain ⟨a, d, rfl, hd, h1, h2, h3, h4, q⟩ := h
  obtain ⟨u, rfl, hu⟩ := vals1 r
  obtain ⟨as, rd⟩ := Dp.reads I d (.ref a) u hd hu
  cases hu
  exact repr_of_reads' rd h1 (PySem.PyData.noDict_hsm h2) quiet (by omega) (fun _ _ e => e) (fun h' t tk hk => ⟨.str _, H, I.kept hk, ⟨_, rfl⟩, q⟩) h4
end
/-! ### how long such a text is -/
theorem textFrom_le : ∀ (ts : List Str) (k : Nat) (acc : Str), (textFrom k acc ts).length ≤ acc.length + (ts.map fun t => t.length + 2).sum
  | [], k, acc => Nat.le_refl _
  | t :: r, k, acc => by
    have a := textFrom_le r (k + 1) (acc ++ (if k > 0 then ", " else "" : String) ++ t)
    have e : (acc ++ (if k > 0 then ", " else "" : String) ++ t).length ≤ acc.length + 2 + t.length := by
      rw [strLen_append, strLen_append]
      have : (Str.ofString (if k > 0 then ", " else "" : String)).length ≤ 2 := by split <;> decide
      omega
    show (textFrom (k + 1) (acc ++ (if k > 0 then ", " else "" : String) ++ t) r).length ≤ _
    rw [List.map_cons, List.sum_cons]
    omega
theorem listText_le (ts : List Str) : (listText ts).length ≤ 2 + (ts.map fun t => t.length + 2).sum := by
  unfold listText
  rw [strLen_append]
  have a := textFrom_le ts 0 "["
  have b : (Str.ofString "[").length = 1 := rfl
  have c : (Str.ofString "]").length = 1 := rfl
  omega
def Small (x : Int) : Prop := x.natAbs < 1000
theorem small_text {x : Int} (h : Small x) : (PyData.int x).shown.length ≤ 4 ∧ (PyData.int x).showable = true := by
  refine ⟨?_, ?_⟩
  · have a : (toString x).length ≤ 3 + 1 := int_text_length_le10 (by decide) h
    simp only [PyData.shown]
    rw [PySem.ofString_length]
    exact a
  · simp only [PyData.showable]
    refine decide_eq_true ?_
    by_cases z : x.natAbs = 0
    · rw [z]; decide
    · exact Nat.lt_of_lt_of_le ((Nat.log2_lt z).mpr (Nat.lt_trans h (by decide : 1000 < 2 ^ 10))) (by decide)
theorem sum_le {l : List Nat} {m : Nat} (h : ∀ x ∈ l, x ≤ m) : l.sum ≤ m * l.length := by
  induction l with
  | nil => exact Nat.zero_le _
  | cons x r ih =>
    have a := h x (.head _)
    have b := ih fun y hy => h y (.tail _ hy)
    rw [List.sum_cons, List.length_cons, Nat.mul_succ]
    omega
/-- what repr asks of a list -/
structure Shows (d : PyData) : Prop where
  able : d.showable = true
  dict : d.hasDict = false
  deep : d.depth ≤ 60
  size : d.shown.length ≤ sizeLine
theorem shows_ints {xs : List Int} (h : ∀ x ∈ xs, Small x) (hl : xs.length ≤ 1000) : Shows (.list (xs.map PyData.int)) ∧ (PyData.list (xs.map PyData.int)).shown.length ≤ 2 + 6 * xs.length ∧ (PyData.list (xs.map PyData.int)).depth = 1 := by
  have e1 : ∀ ys : List Int, (∀ x ∈ ys, Small x) → PyData.showableAll (ys.map PyData.int) = true ∧ PyData.hasDictAll (ys.map PyData.int) = false ∧ PyData.depthAll (ys.map PyData.int) = 0 ∧ (∀ n ∈ (PyData.shownAll (ys.map PyData.int)).map (fun t => t.length + 2), n ≤ 6) ∧ ((PyData.shownAll (ys.map PyData.int)).map (fun t => t.length + 2)).length = ys.length := by
    intro ys
    induction ys with
    | nil => intro _; exact ⟨rfl, rfl, rfl, fun _ h => (by cases h), rfl⟩
    | cons y r ih =>
      intro hy
      obtain ⟨a1, a2, a3, a4, a5⟩ := ih fun x m => hy x (.tail _ m)
      obtain ⟨b1, b2⟩ := small_text (hy y (.head _))
      refine ⟨?_, ?_, ?_, fun n hn => ?_, ?_⟩
      · rw [List.map_cons, PyData.showableAll, b2, a1]; rfl
      · rw [List.map_cons, PyData.hasDictAll, a2]; simp only [PyData.hasDict, Bool.or_self]
      · rw [List.map_cons]; simp only [PyData.depthAll, PyData.depth, a3, Nat.max_self]
      · rw [List.map_cons, PyData.shownAll, List.map_cons] at hn
        rcases List.mem_cons.mp hn with rfl | hn
        · omega
        · exact a4 n hn
      · rw [List.map_cons, PyData.shownAll, List.map_cons, List.length_cons, a5, List.length_cons]
  obtain ⟨a1, a2, a3, a4, a5⟩ := e1 xs h
  have sz : (PyData.list (xs.map PyData.int)).shown.length ≤ 2 + 6 * xs.length := by
    have b := listText_le (PyData.shownAll (xs.map PyData.int))
    have c := sum_le a4
    rw [a5] at c
    simp only [PyData.shown]
    omega
  have dp : (PyData.list (xs.map PyData.int)).depth = 1 := by simp only [PyData.depth, a3]
  refine ⟨⟨by simp only [PyData.showable]; exact a1, by simp only [PyData.hasDict]; exact a2, by rw [dp]; decide, ?_⟩, sz, dp⟩
  refine Nat.le_trans sz (Nat.le_trans (?_ : 2 + 6 * xs.length ≤ 10000) (by rw [sizeLine_eq]; decide))
  omega
theorem shows_rows {xss : List (List Int)} (h : ∀ xs ∈ xss, xs.length ≤ 100 ∧ ∀ x ∈ xs, Small x) (hl : xss.length ≤ 100) : Shows (.list (xss.map fun xs => .list (xs.map PyData.int))) ∧ (PyData.list (xss.map fun xs => .list (xs.map PyData.int))).shown.length ≤ 100000 ∧ (PyData.list (xss.map fun xs => .list (xs.map PyData.int))).depth ≤ 5 := by
  have e1 : ∀ yss : List (List Int), (∀ xs ∈ yss, xs.length ≤ 100 ∧ ∀ x ∈ xs, Small x) → PyData.showableAll (yss.map fun xs => .list (xs.map PyData.int)) = true ∧ PyData.hasDictAll (yss.map fun xs => .list (xs.map PyData.int)) = false ∧ PyData.depthAll (yss.map fun xs => .list (xs.map PyData.int)) ≤ 1 ∧
      (∀ n ∈ (PyData.shownAll (yss.map fun xs => .list (xs.map PyData.int))).map (fun t => t.length + 2), n ≤ 604) ∧ ((PyData.shownAll (yss.map fun xs => .list (xs.map PyData.int))).map (fun t => t.length + 2)).length = yss.length := by
    intro yss
    induction yss with
    | nil => intro _; exact ⟨rfl, rfl, Nat.zero_le _, fun _ h => (by cases h), rfl⟩
    | cons y r ih =>
      intro hy
      obtain ⟨a1, a2, a3, a4, a5⟩ := ih fun x m => hy x (.tail _ m)
      obtain ⟨c1, c2⟩ := hy y (.head _)
      obtain ⟨b1, b2, b3⟩ := shows_ints c2 (by omega)
      refine ⟨?_, ?_, ?_, fun n hn => ?_, ?_⟩
      · rw [List.map_cons, PyData.showableAll, b1.able, a1]; rfl
      · rw [List.map_cons, PyData.hasDictAll, b1.dict, a2]; rfl
      · rw [List.map_cons, PyData.depthAll, b3]; omega
      · rw [List.map_cons, PyData.shownAll, List.map_cons] at hn
        rcases List.mem_cons.mp hn with rfl | hn
        · omega
        · exact a4 n hn
      · rw [List.map_cons, PyData.shownAll, List.map_cons, List.length_cons, a5, List.length_cons]
  obtain ⟨a1, a2, a3, a4, a5⟩ := e1 xss h
  have b := listText_le (PyData.shownAll (xss.map fun xs => .list (xs.map PyData.int)))
  have c := sum_le a4
  rw [a5] at c
  have sz : (PyData.list (xss.map fun xs => .list (xs.map PyData.int))).shown.length ≤ 100000 := by
    simp only [PyData.shown]
    omega
  have dp : (PyData.list (xss.map fun xs => .list (xs.map PyData.int))).depth ≤ 5 := by simp only [PyData.depth]; omega
  exact ⟨⟨by simp only [PyData.showable]; exact a1, by simp only [PyData.hasDict]; exact a2, by omega, Nat.le_trans sz (by rw [sizeLine_eq]; decide)⟩, sz, dp⟩
end L2
namespace L2
open PySem PySem.Spec PyProof.Rows
/-! ### the law's call, at the place where it is made -/
/-- what is asked of the law's def: its call from without, over any base -/
def LawRun (P : Program) (w : World) (K : PySem.W.Frag) (mg : Str → Option Value) (f : Addr) (fd : FuncData) (x : Str) (n : Nat) : Prop :=
  ∀ (base : Heap) (s : Shared) (H : Hp) (a : Addr) (ns : List Int) (Q : VK) (E : XK), K.In base → base.Ns mainGlobals mg → Env0 P w K mg base callerA [] s H → BindsTo s fd ⟨[.ref a], []⟩ [(x, .ref a)] → ns.length ≤ n → SqL K H a (ns.map V.int) →
    (∀ H', Q (.bl true) H') → codeAny (model P w) callerA (.call (.ref f) ⟨[.ref a], []⟩) (CR CX0 [] P w H s Q E) s
theorem LawRun.call {P : Program} {w : World} {K : PySem.W.Frag} {mg mb : Str → Option Value} {fa a : Addr} {fd : FuncData} {x : Str} {n : Nat} {s₁ : Shared} {vs : List Value} {ns : List Int} (R : LawRun P w K mg fa fd x n)
    (inK : K.In s₁.heap) (hm : s₁.heap.Ns mainGlobals mg) (hb : s₁.heap.Ns builtinsNs mb) (boot : ∀ y : Str, y ≠ "__name__" → mb y = bootBuiltins y) (lim : s₁.heap.NoLimit) (quiet : s₁.gens = #[])
    (obj : s₁.heap.get? a = some { cls := .type "list", data := .seq vs.toArray }) (isI : IntsAre vs ns) (hn : ns.length ≤ n) (hz : n ≤ sizeLine) (bi : ∀ (s : Shared) (u : Value), BindsTo s fd ⟨[u], []⟩ [(x, u)]) :
    codeAny (model P w) callerA (.call (.ref fa) ⟨[.ref a], []⟩) (fun r s' => r = .ok (.ret (.bool true)) ∧ OldK s₁.heap s'.heap ∧ s'.os = s₁.os ∧ AllBare s'.gens) s₁ := by
  have rel := vals_ints isI
  have len := isI.length
  -- H: the script alone, or nothing
  have main : ∀ H : Hp, (∀ b, H b = none ∨ (b = a ∧ H b = some (.frz { cls := .type "list", data := .seq vs.toArray } (.lst (ns.map V.int))) ∧ K.lookup a = none)) → SqL K H a (ns.map V.int) →
      codeAny (model P w) callerA (.call (.ref fa) ⟨[.ref a], []⟩) (fun r s' => r = .ok (.ret (.bool true)) ∧ OldK s₁.heap s'.heap ∧ s'.os = s₁.os ∧ AllBare s'.gens) s₁ := by
    intro H only sq
    have ok : HOk P w H s₁.heap := fun b u z => by
      rcases only b with y | ⟨rfl, y, _⟩
      · rw [y] at z; cases z
      · rw [y] at z
        cases z
        exact ⟨obj, by rw [List.length_map]; omega, vs, _, rel, obj⟩
    have nsOf : ∀ {b : Addr} {m : Str → Option Value}, s₁.heap.Ns b m → (hidT s₁.heap H).Ns b m := by
      rintro b m ⟨o, es, ep, g, d, r⟩
      refine ⟨o, es, ep, hidT_get g ?_, d, r⟩
      rcases only b with y | ⟨rfl, _, _⟩
      · exact y
      · rw [obj] at g
        cases g
        cases d
    have inB : K.In (hidT s₁.heap H) := fun b o g => hidT_get (inK b o g) (by
      rcases only b with y | ⟨rfl, _, y⟩
      · exact y
      · rw [y] at g; cases g)
    have md : Mod K mg (hidT s₁.heap H) := by
      obtain ⟨mc, c1, c2⟩ := lim
      exact ⟨inB, nsOf hm, ⟨mb, nsOf hb, boot⟩, mc, nsOf c1, c2⟩
    have en : Env0 P w K mg (hidT s₁.heap H) callerA [] s₁ H := by
      refine ⟨rfl, md, fun b o g => of_hidT g, Nat.le_of_eq (hidT_size _ _), trivial, fun b m => ?_, ok, .of_eq quiet⟩
      cases m
    refine codeAny_mono (R _ s₁ H a ns (fun v _ => v = .bl true) (fun _ _ _ => False) inB (nsOf hm) en (bi s₁ (.ref a)) hn sq fun _ => rfl) fun r s2 z => ?_
    match r, z with
    | .ok (.ret u), ⟨v, H2, os, bare, un, ok2, ru, q⟩ =>
      have q' : v = .bl true := q
      subst q'
      obtain rfl : u = Value.bool true := ru
      refine ⟨rfl, OldK.of_keep fun b o g => ?_, os, bare⟩
      rcases only b with y | ⟨rfl, y, _⟩
      · refine un.keep b o g y (fun m => ?_) (fun m => ?_) <;> cases m
      · obtain ⟨e1, _⟩ := ok b _ y
        obtain ⟨e2, _⟩ := ok2 b _ (un.frzs b _ _ y)
        rw [g] at e1
        cases e1
        exact e2
    | .ok .next, z => exact False.elim z
    | .ok .brk, z => exact False.elim z
    | .ok .cont, z => exact False.elim z
    | .error e, z => exact False.elim z
  by_cases hk : ∃ o, K.lookup a = some o
  · obtain ⟨o, hk⟩ := hk
    have g := inK a o hk
    rw [obj] at g
    cases g
    exact main (fun _ => none) (fun _ => .inl rfl) (.inr ⟨_, vs.toArray, _, hk, rfl, rfl, rfl, by rw [List.size_toArray, len]; omega, by simpa using rel⟩)
  · have hk' : K.lookup a = none := by
      cases z : K.lookup a with
      | none => rfl
      | some o => exact absurd ⟨o, z⟩ hk
    refine main (fun b => if b = a then some (.frz { cls := .type "list", data := .seq vs.toArray } (.lst (ns.map V.int))) else none) (fun b => ?_) (.inl (.inr ⟨_, if_pos rfl⟩))
    by_cases e : b = a
    · exact .inr ⟨e, if_pos e, hk'⟩
    · exact .inl (if_neg e)
/-- the end of a proof whose law runs at its own place -/
theorem walk_at_place {l : PySem.W.OpenLaw} {n : Nat} {q : Program} {loose : List Str} {XP : (Str → Option Value) → Heap → Prop} {YP : World → Heap → Prop} {d : DefRec} {K : Params → PySem.W.Frag} {x : Str}
    (hn : l.most = some n) (hz : n ≤ sizeLine) (hdf : d.params.defaults = []) (hY : ∀ (w : World) (h : Heap), YP w h → (K w.params).In h)
    (F : ∀ (w : World) (mg : Str → Option Value) (fa : Addr) (h : Heap), (K w.params).In h → h.Ns mainGlobals mg → mg d.name = some (.ref fa) → ∃ fd : FuncData, (∀ (s : Shared) (u : Value), BindsTo s fd ⟨[u], []⟩ [(x, u)]) ∧ LawRun l.prog w (K w.params) mg fa fd x n) :
    PySem.W.WalkO q loose XP YP l.row.toRowW d [] (fun f vs => PySem.call f vs) := by
  refine Att.attach_call hn hdf fun w s₀ s₁ mg mb fa o pm cd doc a vs ns G Y ho hd hcd hmg hobj hints hlen hg => ?_
  have KX := hY w _ Y
  obtain ⟨fd, bi, R⟩ := F w mg fa _ KX G.T.g hmg
  exact LawRun.call R KX G.T.g G.T.b G.T.builtins G.T.nolimit hg hobj hints hlen hz bi
end L2
set_option maxHeartbeats 400000
namespace L2
open PySem PySem.Spec PyProof.Rows
/-! ### written tables: a dict of texts to tuples of texts -/
def KTup (K : PySem.W.Frag) (p : Addr) (xs : List V) : Prop := ∃ (o : Obj) (its : Array Value) (n : Nat), K.lookup p = some o ∧ o.cls = .type "tuple" ∧ o.data = .seq its n ∧ its.size ≤ sizeLine ∧ Vals xs its.toList
def KRows : List DictEntry → List (Str × V) → Prop
  | [], [] => True
  | e :: r, p :: q => (∃ t, e.key = .str p.1 t) ∧ RelV p.2 e.val ∧ KRows r q
  | _, _ => False
def KTab (K : PySem.W.Frag) (w : World) (a : Addr) (ps : List (Str × V)) : Prop := ∃ (es : Array DictEntry) (n : Nat), K.lookup a = some ⟨.type "dict", none, .dict es n, #[]⟩ ∧ PySem.W.KeysLit w.params es.toList ∧ (a == sysModules) = false ∧ KRows es.toList ps
def tabGet : List (Str × V) → Str → Option V
  | [], _ => none
  | p :: r, z => if p.1 = z then some p.2 else tabGet r z
theorem tabGet_rows : ∀ {es : List DictEntry} {ps : List (Str × V)} (z : Str), KRows es ps →
    (∃ e v, es.find? (fun e => e.key.isStr z) = some e ∧ tabGet ps z = some v ∧ RelV v e.val) ∨ (es.find? (fun e => e.key.isStr z) = none ∧ tabGet ps z = none ∧ es.any (fun e => e.refKey) = false)
  | [], [], _, _ => .inr ⟨rfl, rfl, rfl⟩
  | e :: r, p :: q, z, ⟨⟨t, hk⟩, hv, hr⟩ => by
    by_cases hz : p.1 = z
    · refine .inl ⟨e, p.2, ?_, ?_, hv⟩
      · rw [List.find?_cons_of_pos]
        rw [hk, hz]
        simp [Value.isStr]
      · unfold tabGet
        rw [if_pos hz]
    · have h1 : ((fun e : DictEntry => e.key.isStr z) e) = false := by
        show e.key.isStr z = false
        rw [hk]
        simp [Value.isStr, hz]
      have h2 : tabGet (p :: q) z = tabGet q z := by
        show (if p.1 = z then some p.2 else tabGet q z) = _
        rw [if_neg hz]
      have h3 : e.refKey = false := by unfold DictEntry.refKey; rw [hk]
      have h4 : (e :: r).find? (fun e => e.key.isStr z) = r.find? (fun e => e.key.isStr z) := List.find?_cons_of_neg (p := fun e : DictEntry => e.key.isStr z) (fun q => Bool.false_ne_true (h1.symm.trans q))
      rw [h4, h2, List.any_cons, h3, Bool.false_or]
      exact tabGet_rows z hr
  | [], _ :: _, _, h => h.elim
  | _ :: _, [], _, h => h.elim
def tKGet (K : PySem.W.Frag) (w : World) (td ty : TE) : TE := fun σ H Q => td σ H fun x H1 => ∃ a ps, x = .ref a ∧ KTab K w a ps ∧ ty σ H1 fun y H2 => ∃ z, y = .str z ∧ Q ((tabGet ps z).getD .non) H2
section
variable {X : Cx} {o e f : Expr} {apos cpos : Pos} {td ty tx : TE}
theorem pe_kget1 (ho : PE X o td) (he : PE X e ty) (m : M1 X o "get" apos e cpos) : PE X (.Call (.Attribute o "get" apos) [e] [] cpos) (tKGet X.K X.w td ty) := by
  refine ⟨fun pins s σ H Q I h => ?_⟩
  refine wpAny_Call_method m.base m.few m.line PySem.F.plainAttrs_dict PySem.F.slot_dict_get PySem.F.type_dict_get (thn (ho.run pins s σ H _ I h) fun u s1 ⟨x, H1, I1, rx, a, ps, ex, ⟨es, n, hl, hk, hd, hrw⟩, q1⟩ => ?_)
  subst ex
  obtain rfl : u = Value.ref a := rx
  have t1 := (PySem.W.mapOf_K (prog := X.prog) (w := X.w) I1.kIn hl hk).typeIs
  refine ⟨t1, fun b hb => by cases hb; exact ⟨_, I1.kIn _ _ hl, rfl⟩, ?_⟩
  rw [m.trees]
  refine Calls.callWith_builtin rfl (Calls.evalArgs_plain (Calls.spliced_cons (thn (he.run pins s1 σ H1 _ I1 q1) fun iv s2 ⟨y, H2, I2, ry, z, ez, q2⟩ => Calls.spliced_nil ?_)))
  subst ez
  obtain ⟨t, rfl⟩ := ry
  have hm := PySem.W.mapOf_K (prog := X.prog) (w := X.w) I2.kIn hl hk
  refine call_meetsIn PySem.F.slot_dict_get hm.typeIs PySem.F.entry_dict_get (PySem.F.args_dict_get_2 _ _) (meets_dict_get (strKind X.prog X.w) a (PySem.strKind_is X.prog X.w z t) hd) ⟨_, hm, ?_⟩
  rcases tabGet_rows z hrw with ⟨en, v, h1, h2, h3⟩ | ⟨h1, h2, h3⟩
  · have ns : PySem.W.nsIn X.K a z = some (some en.val) := by
      unfold PySem.W.nsIn
      rw [hl]
      dsimp only
      rw [h1]
    rw [PySem.W.find_K hl ns]
    rw [h2] at q2
    exact ⟨v, H2, I2.tok _, h3, q2⟩
  · have ns : PySem.W.nsIn X.K a z = some none := by
      unfold PySem.W.nsIn
      rw [hl]
      dsimp only
      rw [h1]
      dsimp only
      rw [h3]
      rfl
    rw [PySem.W.find_K hl ns]
    rw [h2] at q2
    exact ⟨.non, H2, I2.tok _, rfl, q2⟩
end
end L2
set_option maxHeartbeats 4000000
namespace L2
open PySem PySem.Spec PyProof.Rows
theorem tuple_mul1 (l : Addr) (items : Array Value) (n : Nat) (dd : Option Addr) (sl : Array (Option Value)) (u : Tok) :
    Meets (Builtin.«tuple.__mul__» ⟨[.ref l, .int 1 u], []⟩) (fun _ R s => s.heap.get? l = some { cls := .type "tuple", dict := dd, data := .seq items n, slots := sl } ∧
      R (.ok (.ret (Value.ref l))) s) :=
  .of_wp fun prog w A R s h => by
    obtain ⟨hp, g, d, tk, os⟩ := s
    obtain ⟨hl, h⟩ := h
    have f1 := AutoSeq1.idx_int
    wp_walk using wpAny_loadPart' hl
    exact ⟨_, rfl, h⟩
theorem tuple_mul0 (l : Addr) (items : Array Value) (n : Nat) (dd : Option Addr) (sl : Array (Option Value)) (u : Tok) (hne : items.isEmpty = false) :
    Meets (Builtin.«tuple.__mul__» ⟨[.ref l, .int 0 u], []⟩) (fun _ R s => s.heap.get? l = some { cls := .type "tuple", dict := dd, data := .seq items n, slots := sl } ∧
      R (.ok (.ret (Value.ref s.heap.objs.size))) { s with heap := s.heap.push { cls := Value.type "tuple", data := Data.seq #[] }, toks := s.toks }) :=
  .of_wp fun prog w A R s h => by
    obtain ⟨hp, g, d, tk, os⟩ := s
    obtain ⟨hl, h⟩ := h
    have f1 := AutoSeq1.idx_int
    wp_walk using wpAny_loadPart' hl
    exact ⟨_, rfl, h⟩
def rRep01 (K : PySem.W.Frag) : R2 := fun x y H Q => ∃ l k xs, x = .ref l ∧ y = .int k ∧ SqT K H l xs ∧ xs ≠ [] ∧ ((k = 1 ∧ Q (.ref l) H) ∨ (k = 0 ∧ ∀ p, H p = none → Q (.ref p) (upd H p (.tup []))))
theorem op_rep01 {X : Cx} : OpR X (binaryOp .Mult) (rRep01 X.K) := by
  intro pins s σ H x y v u Q I rx ry h
  obtain ⟨l, k, xs, rfl, rfl, hT, hne, h⟩ := h
  cases rx
  obtain ⟨t, rfl⟩ := ry
  obtain ⟨its, r, ⟨⟨cls, dd, data, sl⟩, ho, hc, n, hd⟩, hs⟩ := I.tuple hT
  simp only at hc hd
  subst hc hd
  have hle : its.length = xs.length := r.length.symm
  have hi : its.toArray.isEmpty = false := by
    cases its with
    | nil => exact absurd (List.eq_nil_of_length_eq_zero hle.symm) hne
    | cons a b => rfl
  rcases h with ⟨rfl, q⟩ | ⟨rfl, q⟩
  · refine wpAny_binaryOp_repeat_ref (T := "tuple") (U := "int") (by decide) ⟨_, ho, rfl⟩ (fun s' => typeIs_int s' 1 t) noFill_tuple_mul F.fills_int_mul F.slot_int_rmul repeat_tuple F.slot_int_index.lookup
      (call_meets F.slot_int_rmul (typeIs_int s 1 t) F.entry_int_rmul (F.args_int_rmul_2 _ _) (int_rmul_tuple 1 t l its.toArray n dd sl)
        ⟨ho, rfl, ⟨_, ho, rfl⟩, call_meets F.slot_tuple_mul ⟨_, ho, rfl⟩ F.entry_tuple_mul (F.args_tuple_mul_2 _ _) (tuple_mul1 l its.toArray n dd sl t) ⟨ho, ?_⟩⟩)
    exact ⟨.ref l, H, I, rfl, q⟩
  · refine wpAny_binaryOp_repeat_ref (T := "tuple") (U := "int") (by decide) ⟨_, ho, rfl⟩ (fun s' => typeIs_int s' 0 t) noFill_tuple_mul F.fills_int_mul F.slot_int_rmul repeat_tuple F.slot_int_index.lookup
      (call_meets F.slot_int_rmul (typeIs_int s 0 t) F.entry_int_rmul (F.args_int_rmul_2 _ _) (int_rmul_tuple 0 t l its.toArray n dd sl)
        ⟨ho, rfl, ⟨_, ho, rfl⟩, call_meets F.slot_tuple_mul ⟨_, ho, rfl⟩ F.entry_tuple_mul (F.args_tuple_mul_2 _ _) (tuple_mul0 l its.toArray n dd sl t hi) ⟨ho, ?_⟩⟩)
    refine ⟨.ref s.heap.objs.size, _, I.laid (t' := s.toks) (o := .tup []) (fun b ob q => Heap.get?_push_of_some _ q) (Nat.le_refl _) ?_, rfl, q _ (I.hok.fresh (Nat.le_refl _))⟩
    exact ⟨Nat.zero_le _, [], .nil, IsTup.new _ _⟩
end L2
namespace TX
open PySem PySem.Spec PyProof.Rows
/-! ### set(xs), xs a list of texts -/
/-- how many texts stand first in xs up to i -/
def nd (xs : List Str) : Nat → Nat
  | 0 => 0
  | i + 1 => if (xs.take i).any (· == xs.getD i Str.empty) = true then nd xs i else nd xs i + 1
def upTo (xs : List Str) (i : Nat) : Str → Bool := fun z => (xs.take i).any (· == z)
theorem nd_le (xs : List Str) : ∀ i, nd xs i ≤ i
  | 0 => Nat.le_refl _
  | i + 1 => by
    have := nd_le xs i
    unfold nd
    split <;> omega
theorem upTo_step (xs : List Str) (i : Nat) (hi : i < xs.length) (z : Str) : (upTo xs i z || decide (z = xs.getD i Str.empty)) = upTo xs (i + 1) z := by
  have e : xs[i]? = some (xs.getD i Str.empty) := by rw [List.getD_eq_getElem?_getD, List.getElem?_eq_getElem hi]; rfl
  unfold upTo
  rw [List.take_add_one, e, List.any_append]
  show _ = (_ || ((xs.getD i Str.empty == z) || false))
  rw [Bool.or_false]
  congr 1
  by_cases h : z = xs.getD i Str.empty
  · rw [decide_eq_true h, ← h, beq_self_eq_true]
  · rw [decide_eq_false h, beq_eq_false_iff_ne.mpr (Ne.symm h)]
def nob (led : Bool) : Obj := { cls := .type "set", dict := none, data := .set #[] 0 (.fresh 0 0 led) }
section
variable {prog : Program} {w : World} {A : Around} {R : Result → Shared → Prop} {I : Addr} {fp wr : List Addr} {G : Array GenState → Array GenState → Prop} {n : Nat} {P : Nat → Value → Prop} {St : Nat → Shared → Prop}
theorem loop (W : WalksS prog w A.in1 I fp wr G n P St) (S : Addr) (hSf : S ∉ fp) (xs : List Str) (hxn : xs.length = n) (hv : ∀ i v, P i v → ∃ t, v = .str (xs.getD i Str.empty) t) (hroom : n + 1 < scanBound) :
    ∀ (k i : Nat) (s : Shared), n - i = k → i ≤ n → St i s → s.heap.SetOf (PySem.strKind prog w) S (upTo xs i) (nd xs i) →
      (∀ s', Moved (S :: wr) G s s' → s'.heap.SetOf (PySem.strKind prog w) S (upTo xs n) (nd xs n) → R (.ok (.ret .none)) s') →
      codeAny (model prog w) A (.builtin "set.update.loop" ⟨[.ref S, .ref I], []⟩) R s
  | 0, i, s, hk, hi, hst, hS, hR => by
    obtain rfl : i = n := by omega
    refine codeAny_builtin PyProof.Rows.F.entry_set_update_loop (by
      rw [Around.under_plainId PyProof.Rows.F.plain_set_update_loop _]
      refine (show wpAny (model prog w) A.in1 (pyNext (.ref I) >>= _) _ _ s from wpAny_bind (W.done s _ _ hst fun s' hm => ?_))
      obtain ⟨o, es, ep, t, ho, rest⟩ := hS
      exact wpAny_pure (hR s' (hm.mono fun b hb => .tail _ hb) ⟨o, es, ep, t, hm.heap S _ (fun z => hSf (W.sub _ z)) ho, rest⟩))
  | k + 1, i, s, hk, hi, hst, hS, hR => by
    have hlt : i < n := by omega
    refine codeAny_builtin PyProof.Rows.F.entry_set_update_loop (by
      rw [Around.under_plainId PyProof.Rows.F.plain_set_update_loop _]
      refine (show wpAny (model prog w) A.in1 (pyNext (.ref I) >>= _) _ _ s from wpAny_bind (W.item i s _ _ hlt hst fun v s' hP hst' hm => ?_))
      obtain ⟨t, rfl⟩ := hv i v hP
      obtain ⟨o, es, ep, tb, ho, rest⟩ := hS
      have h1 : s'.heap.SetOf (PySem.strKind prog w) S (upTo xs i) (nd xs i) := ⟨o, es, ep, tb, hm.heap S _ (fun z => hSf (W.sub _ z)) ho, rest⟩
      refine (show wpAny _ A.in1 (holding [Value.str (xs.getD i Str.empty) t] (setAdd S (.str (xs.getD i Str.empty) t)) >>= _) _ _ s' from wpAny_bind (wpAny_holding ?_))
      unfold setAdd
      refine wpAny_holding (wpAny_bind ((PySem.strKind prog w).pyHash (k := xs.getD i Str.empty) (strKind_is _ _ _ _) ?_))
      have hle := nd_le xs i
      refine wpAny_setAddHashed_of (knd := PySem.strKind prog w) (s := { s' with toks := s'.toks + 1 }) (strKind_is _ _ _ _) rfl h1 (by omega) fun h' hsb hS2 => ?_
      have h2 : h'.SetOf (PySem.strKind prog w) S (upTo xs (i + 1)) (nd xs (i + 1)) := SetOf_congr hS2 (upTo_step xs i (by omega)) rfl
      refine wpAny_pure ⟨plainId_quiet PyProof.Rows.F.plain_set_update_loop _, loop W S hSf xs hxn hv hroom k (i + 1) _ (by omega) hlt (W.frame _ s' _ _ hst' (Nat.le_succ _) fun b hb o e => ?_) h2 fun s2 hm2 hS3 => hR s2 (Moved.trans W.gtrans ((hm.mono fun b hb => .tail _ hb).then_heap (Nat.le_succ _) fun b o hb e => ?_) hm2) hS3⟩
      · exact (hsb.2 b (fun z : b = S => hSf (z ▸ hb))).trans e
      · exact (hsb.2 b (fun z : b = S => hb (z ▸ .head _))).trans e)
end
section
variable {prog : Program} {w : World} {A : Around} {E : Value → Shared → Prop} {s : Shared}
theorem old2 {h : Heap} {X Y o : Obj} {b : Addr} (e : h.get? b = some o) : ((h.push X).push Y).get? b = some o := Heap.get?_push_of_some _ (Heap.get?_push_of_some _ e)
set_option maxHeartbeats 3200000 in
theorem init_list {l : Addr} {items : Array Value} {xs : List Str} (led : Bool) (hh : A.handled = none) (hl : s.heap.IsList l items) (hi : StrsAre items.toList xs) (hroom : items.size + 1 < scanBound) :
    codeAny (model prog w) A (.call (.builtin "set.__init__") ⟨[.ref s.heap.objs.size, .ref l], []⟩) (wants (fun v s2 => v = .none ∧ ∃ h' tk, s2 = { s with heap := h', toks := tk } ∧ h'.SetOf (PySem.strKind prog w) s.heap.objs.size (upTo xs items.size) (nd xs items.size) ∧
      ∀ b o, b < s.heap.objs.size → s.heap.get? b = some o → h'.get? b = some o) E) { s with heap := s.heap.push (nob led) } := by
  have hS : (s.heap.push (nob led)).get? s.heap.objs.size = some (nob led) := Heap.get?_push_size _ rfl
  have hT : Shared.TypeIs { s with heap := s.heap.push (nob led) } (.ref s.heap.objs.size) "set" := ⟨nob led, hS, rfl⟩
  refine codeAny_call_builtin PySem.F.called_set.init.plain PySem.F.entry_set_init (check_set_init_1 hT ?_)
  have hlS : l < s.heap.objs.size := by
    obtain ⟨ol, hol, _⟩ := hl
    exact Heap.lt_size hol
  have hl1 : (s.heap.push (nob led)).IsList l items := hl.push _
  obtain ⟨⟨ocls, odict, odata, oslots⟩, hol, hcl, nl, hdl⟩ := hl
  dsimp only at hcl hdl
  subst hcl hdl
  have hol2 : (s.heap.push (nob led)).get? l = some { cls := .type "list", dict := odict, data := .seq items nl, slots := oslots } := Heap.get?_push_of_some _ hol
  have hsls := PySem.F.sub_list_set; have hslf := PySem.F.sub_list_frozenset; have hne : (Value.type "list" == Value.type "dict") = false := by decide
  unfold Builtin.«set.__init__» noKeywords Builtin.Frozenset.updateFrom
  generalize hPI : pyIter = PI
  wp_walk
  subst hPI
  have hsz : xs.length = items.size := by rw [← StrsAre.len_eq hi, Array.length_toList]
  have hz : (s.heap.push (nob led)).objs.size = s.heap.objs.size + 1 := Heap.size_push _ _
  have nI : l ≠ (s.heap.push (nob led)).objs.size := by rw [hz]; exact Nat.ne_of_lt (Nat.lt_succ_of_lt hlS)
  have nS : s.heap.objs.size ∉ [(s.heap.push (nob led)).objs.size, l] := by
    rw [hz]
    intro m
    rcases List.mem_cons.mp m with m | m
    · exact Nat.ne_of_lt (Nat.lt_succ_self _) m
    · exact Nat.ne_of_gt hlS (List.mem_singleton.mp m)
  refine wpAny_pyIter_list hl1 (wpAny_bind (wpAny_runValue ?_))
  refine loop ((Walks.list (by simp [hh]) _ l nI items).toS) s.heap.objs.size nS xs hsz (fun i v hv => SS.strs_at hi i v (by rw [Array.getElem?_toList]; exact hv)) hroom (items.size - 0) 0 _ (by omega) (Nat.zero_le _)
    ⟨⟨_, Heap.get?_push_size _ rfl, rfl, rfl⟩, (hl1.push _)⟩ (SetOf_congr ((setObjOf_fresh (knd := PySem.strKind prog w) led).setOf (Heap.get?_push_of_some _ hS) (by unfold scanBound; omega)) (fun _ => rfl) rfl) ?_
  rintro ⟨h', g', d', tk', os'⟩ hm hS2
  cases (show g' = s.gens from hm.gens)
  cases (show d' = s.drawn from hm.drawn)
  cases (show os' = s.os from hm.os)
  refine (show wpAny _ _ _ _ _ _ from wpAny_pure (show wpAny _ _ (ret Value.none) _ _ _ from wpAny_pure ⟨rfl, h', tk', rfl, hS2, fun b o hb e => hm.heap b o ?_ (old2 e)⟩))
  rw [hz]
  intro m
  rcases List.mem_cons.mp m with m | m
  · exact Nat.ne_of_lt hb m
  · exact Nat.ne_of_lt (Nat.lt_succ_of_lt hb) (List.mem_singleton.mp m)
set_option maxHeartbeats 3200000 in
theorem call_set {l : Addr} {items : Array Value} {xs : List Str} {Q : Value → Shared → Prop} (hh : A.handled = none) (hl : s.heap.IsList l items) (hi : StrsAre items.toList xs) (hroom : items.size + 1 < scanBound)
    (h : ∀ (h' : Heap) (tk : Nat), h'.SetOf (PySem.strKind prog w) s.heap.objs.size (upTo xs items.size) (nd xs items.size) → (∀ b o, b < s.heap.objs.size → s.heap.get? b = some o → h'.get? b = some o) → Q (.ref s.heap.objs.size) { s with heap := h', toks := tk }) :
    wpAny (model prog w) A (call (.type "set") [.ref l]) Q E s := by
  obtain ⟨c, tl, hmro⟩ := PySem.F.called_set.mro
  have hmade := PySem.F.called_set.made; have hsub := PySem.F.called_set.sub
  refine wpAny_call (codeAny_of_tree (show wpAny _ _ (callAny (.type "set") _) _ _ _ from wpAny_pure ⟨Code.quiet_builtin _ (by decide +kernel), codeAny_builtin PySem.F.entry_type_call ?_⟩))
  rw [Around.under_plain (weight_type_call_type "set" [.ref l] []) rfl]
  have h1 := PySem.F.called_set.notType; have h2 := PySem.F.called_set.canCreate; have hct := PySem.F.typeCall_set_1 (.ref l)
  repeat (any_goals (first | assumption | wp_step))
  refine codeAny_mono (code_set_new_1 (.ref l) (E := E) (Q₁ := fun v s1 => ∃ led : Bool, v = .ref s.heap.objs.size ∧ s1 = { s with heap := s.heap.push (nob led) }) fun led => ⟨led, rfl, rfl⟩) fun r s1 hr => ?_
  match r, hr with
  | .error e, hr => exact hr
  | .ok .next, hr => exact hr.elim
  | .ok .brk, hr => exact hr.elim
  | .ok .cont, hr => exact hr.elim
  | .ok (.ret v), ⟨led, hv, hs1⟩ =>
    subst hv hs1
    have hT : Shared.TypeIs { s with heap := s.heap.push (nob led) } (.ref s.heap.objs.size) "set" := ⟨nob led, Heap.get?_push_size _ rfl, rfl⟩
    have hli := PySem.F.called_set.init.lookup; have hbi := PySem.F.called_set.init.bind (.ref s.heap.objs.size)
    repeat (any_goals (first | assumption | wp_step))
    refine codeAny_mono (init_list (E := E) led (A := A.in1) (by simp [hh]) hl hi hroom) fun r2 s2 hr2 => ?_
    match r2, hr2 with
    | .error e, hr2 => exact hr2
    | .ok .next, hr2 => exact hr2.elim
    | .ok .brk, hr2 => exact hr2.elim
    | .ok .cont, hr2 => exact hr2.elim
    | .ok (.ret v2), ⟨hv2, h', tk, hs2, hS2, hk2⟩ =>
      subst hv2 hs2
      repeat (any_goals (first | assumption | wp_step))
      exact h _ _ hS2 hk2
end
end TX
namespace L2
open PySem PySem.Spec PyProof.Rows
/-- len(set(xs)), xs a list of texts -/
def tLenTx (K : PySem.W.Frag) (ta : TE) : TE := fun σ H Q => ta σ H fun x H1 => ∃ l, ∃ xs : List Str, x = .ref l ∧ SqL K H1 l (xs.map V.str) ∧ xs.length ≤ 1000 ∧ Q (.int (TX.nd xs xs.length)) H1
theorem pe_lenTx {X : Cx} {a : Expr} {ta : TE} {p p2 q pos : Pos} (hg : Gl X "len") (hm : X.mg "len" = none) (hg2 : Gl X "set") (hm2 : X.mg "set" = none) (ha : PE X a ta) (hc : X.calm = true := by rfl)
    (na : starEach [a] X.env = (false, eval a X.env) :: starEach [] X.env := by rfl) : PE X (.Call (.Name "len" p) [.Call (.Name "set" p2) [a] [] q] [] pos) (tLenTx X.K ta) := by
  refine ⟨fun pins s σ H Q I h => Call_ (ld_blt I hg hm boot_len (PyProof.Rows.callWith_builtin1 (PyProof.Rows.args_cons (Call_ (ld_blt I hg2 hm2 boot_set (PyProof.Rows.callWith_type1 (PyProof.Rows.args_cons (thn (ha.run pins s σ H _ I h) fun v s1 ⟨x, H1, I1, r1, l, xs, ex, hq, hl, q1⟩ => PyProof.Rows.args_nil ?_) na) na rfl))) rfl) rfl rfl))⟩
  subst ex
  cases r1
  obtain ⟨its, r, pl, hz⟩ := I1.list hq
  have e : its.toArray.size = xs.length := by rw [List.size_toArray, ← r.length, List.length_map]
  refine TX.call_set (I1.ok.hd hc) pl.isList (by simpa using strsAre_of r) (by rw [e]; unfold scanBound; omega) fun h' tk hS hk => PyProof.Rows.args_nil ?_
  rw [e] at hS
  have nle := TX.nd_le xs xs.length
  obtain ⟨o, es, ep, t, ho, hex, hd, _, _, _, hf, hn⟩ := hS
  have I2 : Inv X pins σ H1 { s1 with heap := h', toks := tk } := I1.kept fun b o z => hk b o (Heap.lt_size z) z
  exact call_len_set ho hex hd hf (by rw [hn]; omega) ⟨.int (TX.nd xs xs.length), H1, I2.tok _, ⟨_, by rw [hn]⟩, q1⟩
end L2
namespace L2
open PySem PySem.Spec PyProof.Rows
/-! ### x in a tuple of data -/
def rInT (K : PySem.W.Frag) : R2 := fun x y H Q => ∃ d ds, Dp K H x d ∧ Dp K H y (.tuple ds) ∧ d.canLay0 = true ∧ PyData.canLayAll0 ds = true ∧ PyData.depthAll ds ≤ 60 ∧ Q (.bl (ds.any fun z => PyData.eqv z d)) H
theorem op_inT {X : Cx} (hu : X.A.units + 64 < cLine) : OpR X (compareOp .In) (rInT X.K) := by
  intro pins s σ H x y v u Q I rx ry h
  obtain ⟨d, ds, hd, he, sd, se, hdp, q⟩ := h
  obtain ⟨as, r1⟩ := Dp.reads I d x v hd rx
  obtain ⟨bs, r2⟩ := Dp.reads I (.tuple ds) y u he ry
  have h1 : min (PyData.depthAll ds) d.depth ≤ PyData.depthAll ds := Nat.min_le_left _ _
  exact SeqAt.in_tuple_reads r2 r1 se sd (by omega) ⟨.bl _, H, I, rfl, q⟩
theorem DpAll.strs {K : PySem.W.Frag} {H : Hp} : ∀ xs : List Str, DpAll K H (xs.map V.str) (xs.map PyData.str)
  | [] => .nil
  | x :: r => .cons (.str x) (DpAll.strs r)
theorem depth_strs : ∀ xs : List Str, PyData.depthAll (xs.map PyData.str) = 0
  | [] => rfl
  | x :: r => by
    rw [List.map_cons]
    show max (PyData.depth (.str x)) (PyData.depthAll (r.map PyData.str)) = 0
    rw [depth_strs r]
    rfl
def oneOf (xs : List Str) : PyData → Bool
  | .str x => xs.any (· == x)
  | _ => false
theorem any_strs (xs : List Str) (d : PyData) : ((xs.map PyData.str).any fun z => PyData.eqv z d) = oneOf xs d := by
  induction xs with
  | nil => cases d <;> rfl
  | cons x r ih =>
    rw [List.map_cons, List.any_cons, ih]
    cases d <;> rfl
theorem rInT_strs {K : PySem.W.Frag} {x y : V} {H : Hp} {Q : VK} {d : PyData} (xs : List Str) (hd : Dp K H x d) (hy : Dp K H y (.tuple (xs.map PyData.str))) (sd : d.canLay0 = true) (sx : PyData.canLayAll0 (xs.map PyData.str) = true)
    (q : Q (.bl (oneOf xs d)) H) : rInT K x y H Q := ⟨d, _, hd, hy, sd, sx, by rw [depth_strs]; exact Nat.zero_le _, by rw [any_strs]; exact q⟩
mutual
/-- data without dicts whose texts are short -/
def fine : PyData → Bool
  | .none | .bool _ | .int _ => true
  | .str x => PyData.canLay0 (.str x) && decide (x.length ≤ sizeLine)
  | .list xs => fineAll xs
  | .tuple xs => fineAll xs
  | .dict _ => false
def fineAll : List PyData → Bool
  | [] => true
  | x :: r => fine x && fineAll r
end
mutual
theorem fine_lay : ∀ d : PyData, fine d = true → d.canLay0 = true
  | .none, _ => rfl
  | .bool _, _ => rfl
  | .int _, _ => rfl
  | .str x, h => by unfold fine at h; exact (Bool.and_eq_true_iff.mp h).1
  | .list xs, h => by unfold fine at h; unfold PyData.canLay0; exact fineAll_lay xs h
  | .tuple xs, h => by unfold fine at h; unfold PyData.canLay0; exact fineAll_lay xs h
  | .dict _, h => by unfold fine at h; cases h
theorem fineAll_lay : ∀ ds : List PyData, fineAll ds = true → PyData.canLayAll0 ds = true
  | [], _ => rfl
  | x :: r, h => by
    unfold fineAll at h
    rw [Bool.and_eq_true] at h
    unfold PyData.canLayAll0
    rw [fine_lay x h.1, fineAll_lay r h.2]
    rfl
end
theorem fineAll_mem : ∀ {ds : List PyData} {d : PyData}, fineAll ds = true → d ∈ ds → fine d = true
  | x :: r, d, h, m => by
    unfold fineAll at h
    rw [Bool.and_eq_true] at h
    cases m with
    | head => exact h.1
    | tail _ m => exact fineAll_mem h.2 m
theorem fine_tup {ds : List PyData} (h : fine (.tuple ds) = true) : fineAll ds = true := by unfold fine at h; exact h
theorem fine_len {x : Str} (h : fine (.str x) = true) : x.length ≤ sizeLine := by
  unfold fine at h
  exact of_decide_eq_true (Bool.and_eq_true_iff.mp h).2
end L2
set_option maxHeartbeats 200000
set_option maxHeartbeats 4000000
namespace D8
open PySem PySem.Spec PyProof.Rows L2
/-! ### the text -/
def topS (i : Nat) : Stmt := PySem.Challenge.pw_drawloom_k61_lanes.main.body.getD i (.Pass ⟨0, 0, 0, 0⟩)
abbrev s_is_between : Stmt := topS 10
theorem sc_is_between : FnScope ["value", "least", "most"] ["value", "least", "most"] (defScope s_is_between) := ⟨rfl, rfl, rfl, by decide +kernel, rfl, by decide +kernel, by decide +kernel⟩
abbrev s_is_word : Stmt := topS 11
theorem sc_is_word : FnScope ["value"] ["value"] (defScope s_is_word) := ⟨rfl, rfl, rfl, by decide +kernel, rfl, by decide +kernel, by decide +kernel⟩
abbrev s_wrapped : Stmt := topS 12
theorem sc_wrapped : FnScope ["number"] ["number"] (defScope s_wrapped) := ⟨rfl, rfl, rfl, by decide +kernel, rfl, by decide +kernel, by decide +kernel⟩
abbrev s_sum_of : Stmt := topS 13
theorem sc_sum_of : FnScope ["a", "b"] ["a", "b"] (defScope s_sum_of) := ⟨rfl, rfl, rfl, by decide +kernel, rfl, by decide +kernel, by decide +kernel⟩
abbrev s_difference : Stmt := topS 14
theorem sc_difference : FnScope ["a", "b"] ["a", "b"] (defScope s_difference) := ⟨rfl, rfl, rfl, by decide +kernel, rfl, by decide +kernel, by decide +kernel⟩
abbrev s_product_of : Stmt := topS 15
theorem sc_product_of : FnScope ["a", "b"] ["a", "b"] (defScope s_product_of) := ⟨rfl, rfl, rfl, by decide +kernel, rfl, by decide +kernel, by decide +kernel⟩
abbrev s_quotient : Stmt := topS 16
theorem sc_quotient : FnScope ["a", "b", "size"] ["a", "b"] (defScope s_quotient) := ⟨rfl, rfl, rfl, by decide +kernel, rfl, by decide +kernel, by decide +kernel⟩
abbrev s_remainder : Stmt := topS 17
theorem sc_remainder : FnScope ["a", "b"] ["a", "b"] (defScope s_remainder) := ⟨rfl, rfl, rfl, by decide +kernel, rfl, by decide +kernel, by decide +kernel⟩
abbrev s_bits_of_both : Stmt := topS 18
theorem sc_bits_of_both : FnScope ["a", "b"] ["a", "b"] (defScope s_bits_of_both) := ⟨rfl, rfl, rfl, by decide +kernel, rfl, by decide +kernel, by decide +kernel⟩
abbrev s_bits_of_any : Stmt := topS 19
theorem sc_bits_of_any : FnScope ["a", "b"] ["a", "b"] (defScope s_bits_of_any) := ⟨rfl, rfl, rfl, by decide +kernel, rfl, by decide +kernel, by decide +kernel⟩
abbrev s_bits_of_one : Stmt := topS 20
theorem sc_bits_of_one : FnScope ["a", "b"] ["a", "b"] (defScope s_bits_of_one) := ⟨rfl, rfl, rfl, by decide +kernel, rfl, by decide +kernel, by decide +kernel⟩
abbrev s_shifted_left : Stmt := topS 21
theorem sc_shifted_left : FnScope ["a", "b"] ["a", "b"] (defScope s_shifted_left) := ⟨rfl, rfl, rfl, by decide +kernel, rfl, by decide +kernel, by decide +kernel⟩
abbrev s_shifted_right : Stmt := topS 22
theorem sc_shifted_right : FnScope ["a", "b"] ["a", "b"] (defScope s_shifted_right) := ⟨rfl, rfl, rfl, by decide +kernel, rfl, by decide +kernel, by decide +kernel⟩
abbrev s_is_less : Stmt := topS 23
theorem sc_is_less : FnScope ["a", "b"] ["a", "b"] (defScope s_is_less) := ⟨rfl, rfl, rfl, by decide +kernel, rfl, by decide +kernel, by decide +kernel⟩
abbrev s_is_at_most : Stmt := topS 24
theorem sc_is_at_most : FnScope ["a", "b"] ["a", "b"] (defScope s_is_at_most) := ⟨rfl, rfl, rfl, by decide +kernel, rfl, by decide +kernel, by decide +kernel⟩
abbrev s_is_equal : Stmt := topS 25
theorem sc_is_equal : FnScope ["a", "b"] ["a", "b"] (defScope s_is_equal) := ⟨rfl, rfl, rfl, by decide +kernel, rfl, by decide +kernel, by decide +kernel⟩
abbrev s_is_other : Stmt := topS 26
theorem sc_is_other : FnScope ["a", "b"] ["a", "b"] (defScope s_is_other) := ⟨rfl, rfl, rfl, by decide +kernel, rfl, by decide +kernel, by decide +kernel⟩
abbrev s_lesser : Stmt := topS 27
theorem sc_lesser : FnScope ["a", "b"] ["a", "b"] (defScope s_lesser) := ⟨rfl, rfl, rfl, by decide +kernel, rfl, by decide +kernel, by decide +kernel⟩
abbrev s_greater : Stmt := topS 28
theorem sc_greater : FnScope ["a", "b"] ["a", "b"] (defScope s_greater) := ⟨rfl, rfl, rfl, by decide +kernel, rfl, by decide +kernel, by decide +kernel⟩
abbrev s_negative : Stmt := topS 29
theorem sc_negative : FnScope ["a"] ["a"] (defScope s_negative) := ⟨rfl, rfl, rfl, by decide +kernel, rfl, by decide +kernel, by decide +kernel⟩
abbrev s_turned_bits : Stmt := topS 30
theorem sc_turned_bits : FnScope ["a"] ["a"] (defScope s_turned_bits) := ⟨rfl, rfl, rfl, by decide +kernel, rfl, by decide +kernel, by decide +kernel⟩
abbrev s_is_zero : Stmt := topS 31
theorem sc_is_zero : FnScope ["a"] ["a"] (defScope s_is_zero) := ⟨rfl, rfl, rfl, by decide +kernel, rfl, by decide +kernel, by decide +kernel⟩
abbrev s_binary : Stmt := topS 34
theorem sc_binary : FnScope ["op", "a", "b", "action"] ["op", "a", "b"] (defScope s_binary) := ⟨rfl, rfl, rfl, by decide +kernel, rfl, by decide +kernel, by decide +kernel⟩
abbrev s_unary : Stmt := topS 35
theorem sc_unary : FnScope ["op", "a", "action"] ["op", "a"] (defScope s_unary) := ⟨rfl, rfl, rfl, by decide +kernel, rfl, by decide +kernel, by decide +kernel⟩
abbrev s_special : Stmt := topS 37
theorem sc_special : FnScope ["launch", "thread", "word", "grid", "dim", "_"] ["launch", "thread", "word"] (defScope s_special) := ⟨rfl, rfl, rfl, by decide +kernel, rfl, by decide +kernel, by decide +kernel⟩
abbrev s_asked_by : Stmt := topS 40
theorem sc_asked_by : FnScope ["instruction", "registers", "kind", "_", "array", "cell", "number", "op"] ["instruction", "registers"] (defScope s_asked_by) := ⟨rfl, rfl, rfl, by decide +kernel, rfl, by decide +kernel, by decide +kernel⟩
abbrev s_made_by : Stmt := topS 41
theorem sc_made_by : FnScope ["instruction", "registers", "launch", "thread", "word", "kind", "_", "op", "first", "second"] ["instruction", "registers", "launch", "thread", "word"] (defScope s_made_by) := ⟨rfl, rfl, rfl, by decide +kernel, rfl, by decide +kernel, by decide +kernel⟩
abbrev s_written : Stmt := topS 46
theorem sc_written : FnScope ["instruction", "at"] ["instruction"] (defScope s_written) := ⟨rfl, rfl, rfl, by decide +kernel, rfl, by decide +kernel, by decide +kernel⟩
abbrev s_first_lane : Stmt := topS 49
theorem sc_first_lane : FnScope ["code"] ["code"] (defScope s_first_lane) := ⟨rfl, rfl, rfl, by decide +kernel, rfl, by decide +kernel, by decide +kernel⟩
abbrev s_request : Stmt := topS 50
theorem sc_request : FnScope ["code", "lane", "at", "registers", "_"] ["code", "lane"] (defScope s_request) := ⟨rfl, rfl, rfl, by decide +kernel, rfl, by decide +kernel, by decide +kernel⟩
abbrev s_with_word : Stmt := topS 51
theorem sc_with_word : FnScope ["words", "index", "word"] ["words", "index", "word"] (defScope s_with_word) := ⟨rfl, rfl, rfl, by decide +kernel, rfl, by decide +kernel, by decide +kernel⟩
abbrev s_next_index : Stmt := topS 52
theorem sc_next_index : FnScope ["instruction", "at", "registers"] ["instruction", "at", "registers"] (defScope s_next_index) := ⟨rfl, rfl, rfl, by decide +kernel, rfl, by decide +kernel, by decide +kernel⟩
abbrev s_behind : Stmt := topS 53
theorem sc_behind : FnScope ["code", "launch", "thread", "lane", "word", "at", "registers", "cells", "instruction", "_", "write", "cell", "number", "made"] ["code", "launch", "thread", "lane", "word"] (defScope s_behind) := ⟨rfl, rfl, rfl, by decide +kernel, rfl, by decide +kernel, by decide +kernel⟩
abbrev s_is_tuple : Stmt := topS 62
theorem sc_is_tuple : FnScope ["value", "least", "most"] ["value", "least", "most"] (defScope s_is_tuple) := ⟨rfl, rfl, rfl, by decide +kernel, rfl, by decide +kernel, by decide +kernel⟩
abbrev s_is_name : Stmt := topS 63
theorem sc_is_name : FnScope ["value", "letter"] ["value"] (defScope s_is_name) := ⟨rfl, rfl, rfl, by decide +kernel, rfl, by decide +kernel, by decide +kernel⟩
abbrev s_is_param : Stmt := topS 64
theorem sc_is_param : FnScope ["value"] ["value"] (defScope s_is_param) := ⟨rfl, rfl, rfl, by decide +kernel, rfl, by decide +kernel, by decide +kernel⟩
abbrev s_is_shared_array : Stmt := topS 65
theorem sc_is_shared_array : FnScope ["value"] ["value"] (defScope s_is_shared_array) := ⟨rfl, rfl, rfl, by decide +kernel, rfl, by decide +kernel, by decide +kernel⟩
abbrev s_is_head : Stmt := topS 66
theorem sc_is_head : FnScope ["params", "shared", "names", "row"] ["params", "shared"] (defScope s_is_head) := ⟨rfl, rfl, rfl, by decide +kernel, rfl, by decide +kernel, by decide +kernel⟩
abbrev s_first_word : Stmt := topS 67
theorem sc_first_word : FnScope ["value"] ["value"] (defScope s_first_word) := ⟨rfl, rfl, rfl, by decide +kernel, rfl, by decide +kernel, by decide +kernel⟩
abbrev s_is_choice : Stmt := topS 68
theorem sc_is_choice : FnScope ["sort", "value"] ["sort", "value"] (defScope s_is_choice) := ⟨rfl, rfl, rfl, by decide +kernel, rfl, by decide +kernel, by decide +kernel⟩
abbrev s_is_array : Stmt := topS 71
theorem sc_is_array : FnScope ["params", "shared", "value"] ["params", "shared", "value"] (defScope s_is_array) := ⟨rfl, rfl, rfl, by decide +kernel, rfl, by decide +kernel, by decide +kernel⟩
abbrev s_is_int_param : Stmt := topS 72
theorem sc_is_int_param : FnScope ["params", "value"] ["params", "value"] (defScope s_is_int_param) := ⟨rfl, rfl, rfl, by decide +kernel, rfl, by decide +kernel, by decide +kernel⟩
abbrev s_is_common_part : Stmt := topS 73
theorem sc_is_common_part : FnScope ["params", "shared", "sort", "value"] ["params", "shared", "sort", "value"] (defScope s_is_common_part) := ⟨rfl, rfl, rfl, by decide +kernel, rfl, by decide +kernel, by decide +kernel⟩
abbrev s_is_code_part : Stmt := topS 78
theorem sc_is_code_part : FnScope ["code", "sort", "value", "params", "shared", "local", "instructions"] ["code", "sort", "value"] (defScope s_is_code_part) := ⟨rfl, rfl, rfl, by decide +kernel, rfl, by decide +kernel, by decide +kernel⟩
abbrev s_is_code_instruction : Stmt := topS 79
theorem sc_is_code_instruction : FnScope ["code", "value", "word", "sorts", "sort", "part"] ["code", "value"] (defScope s_is_code_instruction) := ⟨rfl, rfl, rfl, by decide +kernel, rfl, by decide +kernel, by decide +kernel⟩
abbrev s_is_code : Stmt := topS 80
theorem sc_is_code : FnScope ["value", "params", "shared", "local", "instructions", "instruction"] ["value"] (defScope s_is_code) := ⟨rfl, rfl, rfl, by decide +kernel, rfl, by decide +kernel, by decide +kernel⟩
abbrev s_check_code : Stmt := topS 81
theorem sc_check_code : FnScope ["value"] ["value"] (defScope s_check_code) := ⟨rfl, rfl, rfl, by decide +kernel, rfl, by decide +kernel, by decide +kernel⟩
abbrev s_law_stream : Stmt := topS 83
theorem sc_law_stream : FnScope ["script", "mixed", "cell"] ["script"] (defScope s_law_stream) := ⟨rfl, rfl, rfl, by decide +kernel, rfl, by decide +kernel, by decide +kernel⟩
abbrev s_law_draw : Stmt := topS 84
theorem sc_law_draw : FnScope ["stream", "many", "value"] ["stream", "many"] (defScope s_law_draw) := ⟨rfl, rfl, rfl, by decide +kernel, rfl, by decide +kernel, by decide +kernel⟩
abbrev s_law_word : Stmt := topS 85
theorem sc_law_word : FnScope ["stream", "rows"] ["stream"] (defScope s_law_word) := ⟨rfl, rfl, rfl, by decide +kernel, rfl, by decide +kernel, by decide +kernel⟩
abbrev s_law_wrapped : Stmt := topS 86
theorem sc_law_wrapped : FnScope ["number"] ["number"] (defScope s_law_wrapped) := ⟨rfl, rfl, rfl, by decide +kernel, rfl, by decide +kernel, by decide +kernel⟩
abbrev s_law_bits : Stmt := topS 87
theorem sc_law_bits : FnScope ["op", "a", "b", "total", "place", "k", "one", "two", "chosen"] ["op", "a", "b"] (defScope s_law_bits) := ⟨rfl, rfl, rfl, by decide +kernel, rfl, by decide +kernel, by decide +kernel⟩
abbrev s_law_shifted : Stmt := topS 88
theorem sc_law_shifted : FnScope ["op", "a", "b", "k"] ["op", "a", "b"] (defScope s_law_shifted) := ⟨rfl, rfl, rfl, by decide +kernel, rfl, by decide +kernel, by decide +kernel⟩
abbrev s_law_binary : Stmt := topS 89
theorem sc_law_binary : FnScope ["op", "a", "b", "found", "rows"] ["op", "a", "b"] (defScope s_law_binary) := ⟨rfl, rfl, rfl, by decide +kernel, rfl, by decide +kernel, by decide +kernel⟩
abbrev s_law_unary : Stmt := topS 90
theorem sc_law_unary : FnScope ["op", "a"] ["op", "a"] (defScope s_law_unary) := ⟨rfl, rfl, rfl, by decide +kernel, rfl, by decide +kernel, by decide +kernel⟩
abbrev s_law_register : Stmt := topS 91
theorem sc_law_register : FnScope ["stream"] ["stream"] (defScope s_law_register) := ⟨rfl, rfl, rfl, by decide +kernel, rfl, by decide +kernel, by decide +kernel⟩
abbrev s_law_plain_instruction : Stmt := topS 92
theorem sc_law_plain_instruction : FnScope ["stream", "local", "pick", "d", "r", "ops"] ["stream", "local"] (defScope s_law_plain_instruction) := ⟨rfl, rfl, rfl, by decide +kernel, rfl, by decide +kernel, by decide +kernel⟩
abbrev s_law_instruction : Stmt := topS 93
theorem sc_law_instruction : FnScope ["stream", "many", "local", "pick", "r", "array", "op"] ["stream", "many", "local"] (defScope s_law_instruction) := ⟨rfl, rfl, rfl, by decide +kernel, rfl, by decide +kernel, by decide +kernel⟩
abbrev s_law_code : Stmt := topS 94
theorem sc_law_code : FnScope ["stream", "many", "local", "rows", "k", "params"] ["stream"] (defScope s_law_code) := ⟨rfl, rfl, rfl, by decide +kernel, rfl, by decide +kernel, by decide +kernel⟩
abbrev s_law_started : Stmt := topS 95
theorem sc_law_started : FnScope ["stream", "row", "buffers", "many", "arguments", "block", "k"] ["stream"] (defScope s_law_started) := ⟨rfl, rfl, rfl, by decide +kernel, rfl, by decide +kernel, by decide +kernel⟩
abbrev s_law_first : Stmt := topS 96
theorem sc_law_first : FnScope ["code"] ["code"] (defScope s_law_first) := ⟨rfl, rfl, rfl, by decide +kernel, rfl, by decide +kernel, by decide +kernel⟩
abbrev s_law_request : Stmt := topS 97
theorem sc_law_request : FnScope ["code", "lane", "row", "words"] ["code", "lane"] (defScope s_law_request) := ⟨rfl, rfl, rfl, by decide +kernel, rfl, by decide +kernel, by decide +kernel⟩
abbrev s_law_written : Stmt := topS 98
theorem sc_law_written : FnScope ["row", "lane", "launch", "thread", "word", "words", "block", "rows"] ["row", "lane", "launch", "thread", "word"] (defScope s_law_written) := ⟨rfl, rfl, rfl, by decide +kernel, rfl, by decide +kernel, by decide +kernel⟩
abbrev s_law_behind : Stmt := topS 99
theorem sc_law_behind : FnScope ["code", "launch", "thread", "lane", "word", "row", "words", "cells", "at"] ["code", "launch", "thread", "lane", "word"] (defScope s_law_behind) := ⟨rfl, rfl, rfl, by decide +kernel, rfl, by decide +kernel, by decide +kernel⟩
abbrev s_law : Stmt := topS 100
theorem sc_law : FnScope ["script", "stream", "code", "launch", "k", "lane", "thread", "word", "due", "actual", "part"] ["script"] (defScope s_law) := ⟨rfl, rfl, rfl, by decide +kernel, rfl, by decide +kernel, by decide +kernel⟩
/-! ### the mathematics of words -/
inductive Op where | add | sub | mul | div | rem | and | or | xor | shl | shr | lt | le | eq | ne | min | max
  deriving DecidableEq
def Op.s : Op → Str
  | .add => "add" | .sub => "sub" | .mul => "mul" | .div => "div" | .rem => "rem" | .and => "and" | .or => "or" | .xor => "xor" | .shl => "shl" | .shr => "shr"
  | .lt => "lt" | .le => "le" | .eq => "eq" | .ne => "ne" | .min => "min" | .max => "max"
inductive Uop where | neg | not | zero
def Uop.s : Uop → Str
  | .neg => "neg" | .not => "not" | .zero => "zero"
def W (a : Int) : Prop := -2147483648 ≤ a ∧ a ≤ 2147483647
def ab (i : Int) : Int := if i < 0 then -i else i
def wrap (n : Int) : Int := (n - (-2147483648)) % 4294967296 + (-2147483648)
def quo (a b : Int) : Int := if b = 0 then 0 else if decide (a < 0) = decide (b < 0) then ab a / ab b else -(ab a / ab b)
def b1 (p : Prop) [Decidable p] : Int := if p then 1 else 0
def act : Op → Int → Int → Int
  | .add, a, b => a + b
  | .sub, a, b => a - b
  | .mul, a, b => a * b
  | .div, a, b => quo a b
  | .rem, a, b => if b = 0 then 0 else a - b * quo a b
  | .and, a, b => Builtin.bitAnd a b
  | .or, a, b => Builtin.bitOr a b
  | .xor, a, b => Builtin.bitXor a b
  | .shl, a, b => a * 2 ^ (Builtin.bitAnd b 31).toNat
  | .shr, a, b => a / 2 ^ (Builtin.bitAnd b 31).toNat
  | .lt, a, b => b1 (a < b)
  | .le, a, b => b1 (a ≤ b)
  | .eq, a, b => b1 (a = b)
  | .ne, a, b => b1 (a ≠ b)
  | .min, a, b => if a < b then a else b
  | .max, a, b => if b < a then a else b
def uact : Uop → Int → Int
  | .neg, a => -a
  | .not, a => Builtin.bitNot a
  | .zero, a => b1 (a = 0)
/-- the law's own -/
def lwrap (n : Int) : Int := n % 4294967296 - 4294967296 * (if decide (2147483647 < n % 4294967296) = true then 1 else 0)
theorem lwrap_eq (n : Int) : lwrap n = wrap n := by
  unfold lwrap wrap
  by_cases h : 2147483647 < n % 4294967296
  · rw [if_pos (decide_eq_true h)]; omega
  · rw [if_neg (by simpa using h)]; omega
theorem lwrap_mod (n : Int) : lwrap (n % 4294967296) = lwrap n := by
  unfold lwrap
  rw [Int.emod_emod_of_dvd n (Int.dvd_refl _)]
theorem wrap_W (n : Int) : W (wrap n) := by
  unfold wrap W
  omega
/-- bit by bit -/
def bit : Op → Int → Int → Int
  | .and, x, y => x * y
  | .or, x, y => if y > x then y else x
  | _, x, y => if (!decide (V.int x = V.int y)) = true then 1 else 0
def lb (o : Op) : Nat → Int → Int → Int
  | 0, _, _ => 0
  | n + 1, a, b => bit o (a % 2) (b % 2) + 2 * lb o n (a / 2) (b / 2)
theorem halves_mod (x : Int) (n : Nat) : x % 2 ^ (n + 1) = 2 * (x / 2 % 2 ^ n) + x % 2 := by
  have hp : (0 : Int) < 2 ^ n := Int.pow_pos (by decide)
  have e : (2 : Int) ^ (n + 1) = 2 * 2 ^ n := by rw [Int.pow_succ, Int.mul_comm]
  rw [e, Int.emod_def x (2 * 2 ^ n), Int.emod_def (x / 2) (2 ^ n), ← Int.ediv_ediv_of_nonneg (by decide : (0 : Int) ≤ 2)]
  have h := Int.emod_add_mul_ediv x 2
  rw [Int.mul_sub, Int.mul_assoc]
  omega
theorem lb_mod (o : Op) : ∀ (n : Nat) (a b : Int), lb o n (a % 2 ^ n) (b % 2 ^ n) = lb o n a b
  | 0, _, _ => rfl
  | n + 1, a, b => by
    have hp : (0 : Int) < 2 ^ n := Int.pow_pos (by decide)
    have e1 : ∀ x : Int, x % 2 ^ (n + 1) % 2 = x % 2 := fun x => by rw [halves_mod]; omega
    have e2 : ∀ x : Int, x % 2 ^ (n + 1) / 2 = x / 2 % 2 ^ n := fun x => by rw [halves_mod]; omega
    unfold lb
    rw [e1, e1, e2, e2, lb_mod o n]
theorem lb_and : ∀ (n : Nat) (a b : Int), lb .and n a b = Builtin.bitAnd a b % 2 ^ n
  | 0, a, b => by show (0 : Int) = _ % 1; omega
  | n + 1, a, b => by
    unfold lb
    rw [lb_and n, halves_mod (Builtin.bitAnd a b) n]
    have h := PySem.W.kbt_halves a b
    have ha : a % 2 = 0 ∨ a % 2 = 1 := by omega
    have hb : b % 2 = 0 ∨ b % 2 = 1 := by omega
    have e : Builtin.bitAnd a b / 2 = Builtin.bitAnd (a / 2) (b / 2) := by
      rw [h]; split <;> omega
    have e2 : Builtin.bitAnd a b % 2 = (a % 2) * (b % 2) := by
      rw [h]
      rcases ha with ha | ha <;> rcases hb with hb | hb <;> rw [ha, hb] <;> simp <;> omega
    rw [e, e2]
    show a % 2 * (b % 2) + _ = _
    omega
theorem lb_lin : ∀ (n : Nat) (a b : Int), ∃ k j : Int, lb .or n a b = a % 2 ^ n + b % 2 ^ n - lb .and n a b ∧ lb .xor n a b = a % 2 ^ n + b % 2 ^ n - 2 * lb .and n a b
  | 0, a, b => ⟨0, 0, by show (0 : Int) = a % 1 + b % 1 - 0; omega, by show (0 : Int) = a % 1 + b % 1 - 2 * 0; omega⟩
  | n + 1, a, b => by
    obtain ⟨_, _, h1, h2⟩ := lb_lin n (a / 2) (b / 2)
    refine ⟨0, 0, ?_, ?_⟩
    · unfold lb
      rw [h1, halves_mod a, halves_mod b]
      have ha : a % 2 = 0 ∨ a % 2 = 1 := by omega
      have hb : b % 2 = 0 ∨ b % 2 = 1 := by omega
      have e : bit .or (a % 2) (b % 2) = a % 2 + b % 2 - bit .and (a % 2) (b % 2) := by
        rcases ha with ha | ha <;> rcases hb with hb | hb <;> rw [ha, hb] <;> rfl
      omega
    · unfold lb
      rw [h2, halves_mod a, halves_mod b]
      have ha : a % 2 = 0 ∨ a % 2 = 1 := by omega
      have hb : b % 2 = 0 ∨ b % 2 = 1 := by omega
      have e : bit .xor (a % 2) (b % 2) = a % 2 + b % 2 - 2 * bit .and (a % 2) (b % 2) := by
        rcases ha with ha | ha <;> rcases hb with hb | hb <;> rw [ha, hb] <;> rfl
      omega
theorem wrap_congr {x y : Int} (h : x % 4294967296 = y % 4294967296) : wrap x = wrap y := by
  unfold wrap; omega
theorem lb_word_and (a b : Int) : lwrap (lb .and 32 (a % 4294967296) (b % 4294967296)) = wrap (Builtin.bitAnd a b) := by
  have h := lb_mod .and 32 a b
  rw [show ((2 : Int) ^ 32) = 4294967296 by decide] at h
  have g := lb_and 32 a b
  rw [show ((2 : Int) ^ 32) = 4294967296 by decide] at g
  rw [h, g, lwrap_eq]
  exact wrap_congr (by omega)
theorem lb_word_or (a b : Int) : lwrap (lb .or 32 (a % 4294967296) (b % 4294967296)) = wrap (Builtin.bitOr a b) := by
  have h := lb_mod .or 32 a b
  rw [show ((2 : Int) ^ 32) = 4294967296 by decide] at h
  have g := lb_and 32 a b
  obtain ⟨_, _, l1, _⟩ := lb_lin 32 a b
  rw [show ((2 : Int) ^ 32) = 4294967296 by decide] at g l1
  rw [h, l1, g, lwrap_eq, PyProof.Rows.bitOr_and]
  exact wrap_congr (by omega)
theorem lb_word_xor (a b : Int) : lwrap (lb .xor 32 (a % 4294967296) (b % 4294967296)) = wrap (Builtin.bitXor a b) := by
  have h := lb_mod .xor 32 a b
  rw [show ((2 : Int) ^ 32) = 4294967296 by decide] at h
  have g := lb_and 32 a b
  obtain ⟨_, _, _, l2⟩ := lb_lin 32 a b
  rw [show ((2 : Int) ^ 32) = 4294967296 by decide] at g l2
  rw [h, l2, g, lwrap_eq, PyProof.Rows.bitXor_and]
  exact wrap_congr (by omega)
/-- the law's value of an operator -/
def lquo (a b : Int) : Int := if decide (a * b < 0) = true then 0 - ab a / ab b else ab a / ab b
theorem quo_eq (a b : Int) (h : ¬ b = 0) : lquo a b = quo a b := by
  unfold lquo quo
  rw [if_neg h]
  by_cases ha : a < 0
  · by_cases hb : b < 0
    · have q : ¬ a * b < 0 := Int.not_lt.mpr (Int.mul_nonneg_of_nonpos_of_nonpos (by omega) (by omega))
      rw [if_neg (by simpa using q), if_pos (by simp [ha, hb])]
    · have q : a * b < 0 := Int.mul_neg_of_neg_of_pos ha (by omega)
      rw [if_pos (by simpa using q), if_neg (by simp [ha, hb])]
      omega
  · by_cases hb : b < 0
    · by_cases h0 : a = 0
      · subst h0
        rw [if_neg (by simp), if_neg (by simp [hb])]
        show (0 : Int) / ab b = -((0 : Int) / ab b)
        rw [Int.zero_ediv]; rfl
      · have q : a * b < 0 := Int.mul_neg_of_pos_of_neg (by omega) hb
        rw [if_pos (by simpa using q), if_neg (by simp [ha, hb])]
        omega
    · have q : ¬ a * b < 0 := Int.not_lt.mpr (Int.mul_nonneg (by omega) (by omega))
      rw [if_neg (by simpa using q), if_pos (by simp [ha, hb])]

theorem pe_gq {X : Cx} {x : Str} {v : V} {pos : Pos} (hg : Gl X x) (h : ∃ u, X.mg x = some u ∧ RelV v u) (hd : (x == ("__debug__" : Str)) = false := by decide) : PE X (.Name x pos) (tC v) := by
  obtain ⟨u, hm, r⟩ := h
  exact pe_glob hg hm r hd
structure Tx (w : World) (K : PySem.W.Frag) (mg : Str → Option Value) where
  a_is_between : Addr
  d_is_between : FuncData
  F_is_between : Fun K "is_between" "is_between" s_is_between a_is_between d_is_between
  b_is_between : Binds K d_is_between ["value", "least", "most"] []
  g_is_between : mg "is_between" = some (.ref a_is_between)
  a_is_word : Addr
  d_is_word : FuncData
  F_is_word : Fun K "is_word" "is_word" s_is_word a_is_word d_is_word
  b_is_word : Binds K d_is_word ["value"] []
  g_is_word : mg "is_word" = some (.ref a_is_word)
  a_wrapped : Addr
  d_wrapped : FuncData
  F_wrapped : Fun K "wrapped" "wrapped" s_wrapped a_wrapped d_wrapped
  b_wrapped : Binds K d_wrapped ["number"] []
  g_wrapped : mg "wrapped" = some (.ref a_wrapped)
  a_sum_of : Addr
  d_sum_of : FuncData
  F_sum_of : Fun K "sum_of" "sum_of" s_sum_of a_sum_of d_sum_of
  b_sum_of : Binds K d_sum_of ["a", "b"] []
  g_sum_of : mg "sum_of" = some (.ref a_sum_of)
  a_difference : Addr
  d_difference : FuncData
  F_difference : Fun K "difference" "difference" s_difference a_difference d_difference
  b_difference : Binds K d_difference ["a", "b"] []
  g_difference : mg "difference" = some (.ref a_difference)
  a_product_of : Addr
  d_product_of : FuncData
  F_product_of : Fun K "product_of" "product_of" s_product_of a_product_of d_product_of
  b_product_of : Binds K d_product_of ["a", "b"] []
  g_product_of : mg "product_of" = some (.ref a_product_of)
  a_quotient : Addr
  d_quotient : FuncData
  F_quotient : Fun K "quotient" "quotient" s_quotient a_quotient d_quotient
  b_quotient : Binds K d_quotient ["a", "b"] []
  g_quotient : mg "quotient" = some (.ref a_quotient)
  a_remainder : Addr
  d_remainder : FuncData
  F_remainder : Fun K "remainder" "remainder" s_remainder a_remainder d_remainder
  b_remainder : Binds K d_remainder ["a", "b"] []
  g_remainder : mg "remainder" = some (.ref a_remainder)
  a_bits_of_both : Addr
  d_bits_of_both : FuncData
  F_bits_of_both : Fun K "bits_of_both" "bits_of_both" s_bits_of_both a_bits_of_both d_bits_of_both
  b_bits_of_both : Binds K d_bits_of_both ["a", "b"] []
  g_bits_of_both : mg "bits_of_both" = some (.ref a_bits_of_both)
  a_bits_of_any : Addr
  d_bits_of_any : FuncData
  F_bits_of_any : Fun K "bits_of_any" "bits_of_any" s_bits_of_any a_bits_of_any d_bits_of_any
  b_bits_of_any : Binds K d_bits_of_any ["a", "b"] []
  g_bits_of_any : mg "bits_of_any" = some (.ref a_bits_of_any)
  a_bits_of_one : Addr
  d_bits_of_one : FuncData
  F_bits_of_one : Fun K "bits_of_one" "bits_of_one" s_bits_of_one a_bits_of_one d_bits_of_one
  b_bits_of_one : Binds K d_bits_of_one ["a", "b"] []
  g_bits_of_one : mg "bits_of_one" = some (.ref a_bits_of_one)
  a_shifted_left : Addr
  d_shifted_left : FuncData
  F_shifted_left : Fun K "shifted_left" "shifted_left" s_shifted_left a_shifted_left d_shifted_left
  b_shifted_left : Binds K d_shifted_left ["a", "b"] []
  g_shifted_left : mg "shifted_left" = some (.ref a_shifted_left)
  a_shifted_right : Addr
  d_shifted_right : FuncData
  F_shifted_right : Fun K "shifted_right" "shifted_right" s_shifted_right a_shifted_right d_shifted_right
  b_shifted_right : Binds K d_shifted_right ["a", "b"] []
  g_shifted_right : mg "shifted_right" = some (.ref a_shifted_right)
  a_is_less : Addr
  d_is_less : FuncData
  F_is_less : Fun K "is_less" "is_less" s_is_less a_is_less d_is_less
  b_is_less : Binds K d_is_less ["a", "b"] []
  g_is_less : mg "is_less" = some (.ref a_is_less)
  a_is_at_most : Addr
  d_is_at_most : FuncData
  F_is_at_most : Fun K "is_at_most" "is_at_most" s_is_at_most a_is_at_most d_is_at_most
  b_is_at_most : Binds K d_is_at_most ["a", "b"] []
  g_is_at_most : mg "is_at_most" = some (.ref a_is_at_most)
  a_is_equal : Addr
  d_is_equal : FuncData
  F_is_equal : Fun K "is_equal" "is_equal" s_is_equal a_is_equal d_is_equal
  b_is_equal : Binds K d_is_equal ["a", "b"] []
  g_is_equal : mg "is_equal" = some (.ref a_is_equal)
  a_is_other : Addr
  d_is_other : FuncData
  F_is_other : Fun K "is_other" "is_other" s_is_other a_is_other d_is_other
  b_is_other : Binds K d_is_other ["a", "b"] []
  g_is_other : mg "is_other" = some (.ref a_is_other)
  a_lesser : Addr
  d_lesser : FuncData
  F_lesser : Fun K "lesser" "lesser" s_lesser a_lesser d_lesser
  b_lesser : Binds K d_lesser ["a", "b"] []
  g_lesser : mg "lesser" = some (.ref a_lesser)
  a_greater : Addr
  d_greater : FuncData
  F_greater : Fun K "greater" "greater" s_greater a_greater d_greater
  b_greater : Binds K d_greater ["a", "b"] []
  g_greater : mg "greater" = some (.ref a_greater)
  a_negative : Addr
  d_negative : FuncData
  F_negative : Fun K "negative" "negative" s_negative a_negative d_negative
  b_negative : Binds K d_negative ["a"] []
  g_negative : mg "negative" = some (.ref a_negative)
  a_turned_bits : Addr
  d_turned_bits : FuncData
  F_turned_bits : Fun K "turned_bits" "turned_bits" s_turned_bits a_turned_bits d_turned_bits
  b_turned_bits : Binds K d_turned_bits ["a"] []
  g_turned_bits : mg "turned_bits" = some (.ref a_turned_bits)
  a_is_zero : Addr
  d_is_zero : FuncData
  F_is_zero : Fun K "is_zero" "is_zero" s_is_zero a_is_zero d_is_zero
  b_is_zero : Binds K d_is_zero ["a"] []
  g_is_zero : mg "is_zero" = some (.ref a_is_zero)
  a_binary : Addr
  d_binary : FuncData
  F_binary : Fun K "binary" "binary" s_binary a_binary d_binary
  b_binary : Binds K d_binary ["op", "a", "b"] []
  g_binary : mg "binary" = some (.ref a_binary)
  a_unary : Addr
  d_unary : FuncData
  F_unary : Fun K "unary" "unary" s_unary a_unary d_unary
  b_unary : Binds K d_unary ["op", "a"] []
  g_unary : mg "unary" = some (.ref a_unary)
  a_special : Addr
  d_special : FuncData
  F_special : Fun K "special" "special" s_special a_special d_special
  b_special : Binds K d_special ["launch", "thread", "word"] []
  g_special : mg "special" = some (.ref a_special)
  a_asked_by : Addr
  d_asked_by : FuncData
  F_asked_by : Fun K "asked_by" "asked_by" s_asked_by a_asked_by d_asked_by
  b_asked_by : Binds K d_asked_by ["instruction", "registers"] []
  g_asked_by : mg "asked_by" = some (.ref a_asked_by)
  a_made_by : Addr
  d_made_by : FuncData
  F_made_by : Fun K "made_by" "made_by" s_made_by a_made_by d_made_by
  b_made_by : Binds K d_made_by ["instruction", "registers", "launch", "thread", "word"] []
  g_made_by : mg "made_by" = some (.ref a_made_by)
  a_written : Addr
  d_written : FuncData
  F_written : Fun K "written" "written" s_written a_written d_written
  b_written : Binds K d_written ["instruction"] []
  g_written : mg "written" = some (.ref a_written)
  a_first_lane : Addr
  d_first_lane : FuncData
  F_first_lane : Fun K "first_lane" "first_lane" s_first_lane a_first_lane d_first_lane
  b_first_lane : Binds K d_first_lane ["code"] []
  g_first_lane : mg "first_lane" = some (.ref a_first_lane)
  a_request : Addr
  d_request : FuncData
  F_request : Fun K "request" "request" s_request a_request d_request
  b_request : Binds K d_request ["code", "lane"] []
  g_request : mg "request" = some (.ref a_request)
  a_with_word : Addr
  d_with_word : FuncData
  F_with_word : Fun K "with_word" "with_word" s_with_word a_with_word d_with_word
  b_with_word : Binds K d_with_word ["words", "index", "word"] []
  g_with_word : mg "with_word" = some (.ref a_with_word)
  a_next_index : Addr
  d_next_index : FuncData
  F_next_index : Fun K "next_index" "next_index" s_next_index a_next_index d_next_index
  b_next_index : Binds K d_next_index ["instruction", "at", "registers"] []
  g_next_index : mg "next_index" = some (.ref a_next_index)
  a_behind : Addr
  d_behind : FuncData
  F_behind : Fun K "behind" "behind" s_behind a_behind d_behind
  b_behind : Binds K d_behind ["code", "launch", "thread", "lane", "word"] []
  g_behind : mg "behind" = some (.ref a_behind)
  a_is_tuple : Addr
  d_is_tuple : FuncData
  F_is_tuple : Fun K "is_tuple" "is_tuple" s_is_tuple a_is_tuple d_is_tuple
  b_is_tuple : Binds K d_is_tuple ["value", "least", "most"] []
  g_is_tuple : mg "is_tuple" = some (.ref a_is_tuple)
  a_is_name : Addr
  d_is_name : FuncData
  F_is_name : Fun K "is_name" "is_name" s_is_name a_is_name d_is_name
  b_is_name : Binds K d_is_name ["value"] []
  g_is_name : mg "is_name" = some (.ref a_is_name)
  a_is_param : Addr
  d_is_param : FuncData
  F_is_param : Fun K "is_param" "is_param" s_is_param a_is_param d_is_param
  b_is_param : Binds K d_is_param ["value"] []
  g_is_param : mg "is_param" = some (.ref a_is_param)
  a_is_shared_array : Addr
  d_is_shared_array : FuncData
  F_is_shared_array : Fun K "is_shared_array" "is_shared_array" s_is_shared_array a_is_shared_array d_is_shared_array
  b_is_shared_array : Binds K d_is_shared_array ["value"] []
  g_is_shared_array : mg "is_shared_array" = some (.ref a_is_shared_array)
  a_is_head : Addr
  d_is_head : FuncData
  F_is_head : Fun K "is_head" "is_head" s_is_head a_is_head d_is_head
  b_is_head : Binds K d_is_head ["params", "shared"] []
  g_is_head : mg "is_head" = some (.ref a_is_head)
  a_first_word : Addr
  d_first_word : FuncData
  F_first_word : Fun K "first_word" "first_word" s_first_word a_first_word d_first_word
  b_first_word : Binds K d_first_word ["value"] []
  g_first_word : mg "first_word" = some (.ref a_first_word)
  a_is_choice : Addr
  d_is_choice : FuncData
  F_is_choice : Fun K "is_choice" "is_choice" s_is_choice a_is_choice d_is_choice
  b_is_choice : Binds K d_is_choice ["sort", "value"] []
  g_is_choice : mg "is_choice" = some (.ref a_is_choice)
  a_is_array : Addr
  d_is_array : FuncData
  F_is_array : Fun K "is_array" "is_array" s_is_array a_is_array d_is_array
  b_is_array : Binds K d_is_array ["params", "shared", "value"] []
  g_is_array : mg "is_array" = some (.ref a_is_array)
  a_is_int_param : Addr
  d_is_int_param : FuncData
  F_is_int_param : Fun K "is_int_param" "is_int_param" s_is_int_param a_is_int_param d_is_int_param
  b_is_int_param : Binds K d_is_int_param ["params", "value"] []
  g_is_int_param : mg "is_int_param" = some (.ref a_is_int_param)
  a_is_common_part : Addr
  d_is_common_part : FuncData
  F_is_common_part : Fun K "is_common_part" "is_common_part" s_is_common_part a_is_common_part d_is_common_part
  b_is_common_part : Binds K d_is_common_part ["params", "shared", "sort", "value"] []
  g_is_common_part : mg "is_common_part" = some (.ref a_is_common_part)
  a_is_code_part : Addr
  d_is_code_part : FuncData
  F_is_code_part : Fun K "is_code_part" "is_code_part" s_is_code_part a_is_code_part d_is_code_part
  b_is_code_part : Binds K d_is_code_part ["code", "sort", "value"] []
  g_is_code_part : mg "is_code_part" = some (.ref a_is_code_part)
  a_is_code_instruction : Addr
  d_is_code_instruction : FuncData
  F_is_code_instruction : Fun K "is_code_instruction" "is_code_instruction" s_is_code_instruction a_is_code_instruction d_is_code_instruction
  b_is_code_instruction : Binds K d_is_code_instruction ["code", "value"] []
  g_is_code_instruction : mg "is_code_instruction" = some (.ref a_is_code_instruction)
  a_is_code : Addr
  d_is_code : FuncData
  F_is_code : Fun K "is_code" "is_code" s_is_code a_is_code d_is_code
  b_is_code : Binds K d_is_code ["value"] []
  g_is_code : mg "is_code" = some (.ref a_is_code)
  a_check_code : Addr
  d_check_code : FuncData
  F_check_code : Fun K "check_code" "check_code" s_check_code a_check_code d_check_code
  b_check_code : Binds K d_check_code ["value"] []
  g_check_code : mg "check_code" = some (.ref a_check_code)
  a_law_stream : Addr
  d_law_stream : FuncData
  F_law_stream : Fun K "_law_stream" "_law_stream" s_law_stream a_law_stream d_law_stream
  b_law_stream : Binds K d_law_stream ["script"] []
  g_law_stream : mg "_law_stream" = some (.ref a_law_stream)
  a_law_draw : Addr
  d_law_draw : FuncData
  F_law_draw : Fun K "_law_draw" "_law_draw" s_law_draw a_law_draw d_law_draw
  b_law_draw : Binds K d_law_draw ["stream", "many"] []
  g_law_draw : mg "_law_draw" = some (.ref a_law_draw)
  a_law_word : Addr
  d_law_word : FuncData
  F_law_word : Fun K "_law_word" "_law_word" s_law_word a_law_word d_law_word
  b_law_word : Binds K d_law_word ["stream"] []
  g_law_word : mg "_law_word" = some (.ref a_law_word)
  a_law_wrapped : Addr
  d_law_wrapped : FuncData
  F_law_wrapped : Fun K "_law_wrapped" "_law_wrapped" s_law_wrapped a_law_wrapped d_law_wrapped
  b_law_wrapped : Binds K d_law_wrapped ["number"] []
  g_law_wrapped : mg "_law_wrapped" = some (.ref a_law_wrapped)
  a_law_bits : Addr
  d_law_bits : FuncData
  F_law_bits : Fun K "_law_bits" "_law_bits" s_law_bits a_law_bits d_law_bits
  b_law_bits : Binds K d_law_bits ["op", "a", "b"] []
  g_law_bits : mg "_law_bits" = some (.ref a_law_bits)
  a_law_shifted : Addr
  d_law_shifted : FuncData
  F_law_shifted : Fun K "_law_shifted" "_law_shifted" s_law_shifted a_law_shifted d_law_shifted
  b_law_shifted : Binds K d_law_shifted ["op", "a", "b"] []
  g_law_shifted : mg "_law_shifted" = some (.ref a_law_shifted)
  a_law_binary : Addr
  d_law_binary : FuncData
  F_law_binary : Fun K "_law_binary" "_law_binary" s_law_binary a_law_binary d_law_binary
  b_law_binary : Binds K d_law_binary ["op", "a", "b"] []
  g_law_binary : mg "_law_binary" = some (.ref a_law_binary)
  a_law_unary : Addr
  d_law_unary : FuncData
  F_law_unary : Fun K "_law_unary" "_law_unary" s_law_unary a_law_unary d_law_unary
  b_law_unary : Binds K d_law_unary ["op", "a"] []
  g_law_unary : mg "_law_unary" = some (.ref a_law_unary)
  a_law_register : Addr
  d_law_register : FuncData
  F_law_register : Fun K "_law_register" "_law_register" s_law_register a_law_register d_law_register
  b_law_register : Binds K d_law_register ["stream"] []
  g_law_register : mg "_law_register" = some (.ref a_law_register)
  a_law_plain_instruction : Addr
  d_law_plain_instruction : FuncData
  F_law_plain_instruction : Fun K "_law_plain_instruction" "_law_plain_instruction" s_law_plain_instruction a_law_plain_instruction d_law_plain_instruction
  b_law_plain_instruction : Binds K d_law_plain_instruction ["stream", "local"] []
  g_law_plain_instruction : mg "_law_plain_instruction" = some (.ref a_law_plain_instruction)
  a_law_instruction : Addr
  d_law_instruction : FuncData
  F_law_instruction : Fun K "_law_instruction" "_law_instruction" s_law_instruction a_law_instruction d_law_instruction
  b_law_instruction : Binds K d_law_instruction ["stream", "many", "local"] []
  g_law_instruction : mg "_law_instruction" = some (.ref a_law_instruction)
  a_law_code : Addr
  d_law_code : FuncData
  F_law_code : Fun K "_law_code" "_law_code" s_law_code a_law_code d_law_code
  b_law_code : Binds K d_law_code ["stream"] []
  g_law_code : mg "_law_code" = some (.ref a_law_code)
  a_law_started : Addr
  d_law_started : FuncData
  F_law_started : Fun K "_law_started" "_law_started" s_law_started a_law_started d_law_started
  b_law_started : Binds K d_law_started ["stream"] []
  g_law_started : mg "_law_started" = some (.ref a_law_started)
  a_law_first : Addr
  d_law_first : FuncData
  F_law_first : Fun K "_law_first" "_law_first" s_law_first a_law_first d_law_first
  b_law_first : Binds K d_law_first ["code"] []
  g_law_first : mg "_law_first" = some (.ref a_law_first)
  a_law_request : Addr
  d_law_request : FuncData
  F_law_request : Fun K "_law_request" "_law_request" s_law_request a_law_request d_law_request
  b_law_request : Binds K d_law_request ["code", "lane"] []
  g_law_request : mg "_law_request" = some (.ref a_law_request)
  a_law_written : Addr
  d_law_written : FuncData
  F_law_written : Fun K "_law_written" "_law_written" s_law_written a_law_written d_law_written
  b_law_written : Binds K d_law_written ["row", "lane", "launch", "thread", "word"] []
  g_law_written : mg "_law_written" = some (.ref a_law_written)
  a_law_behind : Addr
  d_law_behind : FuncData
  F_law_behind : Fun K "_law_behind" "_law_behind" s_law_behind a_law_behind d_law_behind
  b_law_behind : Binds K d_law_behind ["code", "launch", "thread", "lane", "word"] []
  g_law_behind : mg "_law_behind" = some (.ref a_law_behind)
  a_law : Addr
  d_law : FuncData
  F_law : Fun K "law" "law" s_law a_law d_law
  g_law : mg "law" = some (.ref a_law)
  c_DrawloomError : Addr
  g_DrawloomError : mg "DrawloomError" = some (.ref c_DrawloomError)
  x_DrawloomError : PySem.W.excIn K c_DrawloomError [.type "ValueError", .type "Exception", .type "BaseException", .type "object"] "ValueError.__new__" = true
  k_DrawloomError : PySem.W.keepIn K (.ref c_DrawloomError) = true
  bx_DrawloomError : PySem.W.subIn K (.ref c_DrawloomError) (.type "BaseException") = some true
  ty_DrawloomError : PySem.W.typeIn K (.ref c_DrawloomError) = some (.type "type")
  hd_DrawloomError : PySem.W.hasDictIn K c_DrawloomError = true
  me_DrawloomError : PySem.W.subIn K (.ref c_DrawloomError) (.ref c_DrawloomError) = some true
  ec_DrawloomError : ExcC K c_DrawloomError
  kv_DrawloomError : PySem.W.kitOne K (.ref c_DrawloomError) (.type "ValueError") = some true
  c_BadCode : Addr
  g_BadCode : mg "BadCode" = some (.ref c_BadCode)
  x_BadCode : PySem.W.excIn K c_BadCode [.type "ValueError", .type "Exception", .type "BaseException", .type "object"] "ValueError.__new__" = true
  k_BadCode : PySem.W.keepIn K (.ref c_BadCode) = true
  bx_BadCode : PySem.W.subIn K (.ref c_BadCode) (.type "BaseException") = some true
  ty_BadCode : PySem.W.typeIn K (.ref c_BadCode) = some (.type "type")
  hd_BadCode : PySem.W.hasDictIn K c_BadCode = true
  me_BadCode : PySem.W.subIn K (.ref c_BadCode) (.ref c_BadCode) = some true
  ec_BadCode : ExcC K c_BadCode
  kv_BadCode : PySem.W.kitOne K (.ref c_BadCode) (.type "ValueError") = some true
  kk_BadCode_DrawloomError : PySem.W.kitOne K (.ref c_BadCode) (.ref c_DrawloomError) = some true
  z_abs : mg "abs" = none
  z_all : mg "all" = none
  z_any : mg "any" = none
  z_bool : mg "bool" = none
  z_enumerate : mg "enumerate" = none
  z_int : mg "int" = none
  z_isinstance : mg "isinstance" = none
  z_len : mg "len" = none
  z_list : mg "list" = none
  z_max : mg "max" = none
  z_min : mg "min" = none
  z_range : mg "range" = none
  z_repr : mg "repr" = none
  z_set : mg "set" = none
  z_sorted : mg "sorted" = none
  z_str : mg "str" = none
  z_tuple : mg "tuple" = none
  z_zip : mg "zip" = none
  q_LEAST : ∃ u, mg "LEAST" = some u ∧ RelV (.int (-2147483648)) u
  q_NO_REGISTER : ∃ u, mg "NO_REGISTER" = some u ∧ RelV (.int (-1)) u
  q_MANY_REGISTERS : ∃ u, mg "MANY_REGISTERS" = some u ∧ RelV (.int (8)) u
  a_BINARY_ACTIONS : Addr
  q_BINARY_ACTIONS : ∃ u, mg "BINARY_ACTIONS" = some u ∧ RelV (.ref a_BINARY_ACTIONS) u
  k_BINARY_ACTIONS_add : KDct K w a_BINARY_ACTIONS "add" (.ref a_sum_of)
  k_BINARY_ACTIONS_sub : KDct K w a_BINARY_ACTIONS "sub" (.ref a_difference)
  k_BINARY_ACTIONS_mul : KDct K w a_BINARY_ACTIONS "mul" (.ref a_product_of)
  k_BINARY_ACTIONS_div : KDct K w a_BINARY_ACTIONS "div" (.ref a_quotient)
  k_BINARY_ACTIONS_rem : KDct K w a_BINARY_ACTIONS "rem" (.ref a_remainder)
  k_BINARY_ACTIONS_and : KDct K w a_BINARY_ACTIONS "and" (.ref a_bits_of_both)
  k_BINARY_ACTIONS_or : KDct K w a_BINARY_ACTIONS "or" (.ref a_bits_of_any)
  k_BINARY_ACTIONS_xor : KDct K w a_BINARY_ACTIONS "xor" (.ref a_bits_of_one)
  k_BINARY_ACTIONS_shl : KDct K w a_BINARY_ACTIONS "shl" (.ref a_shifted_left)
  k_BINARY_ACTIONS_shr : KDct K w a_BINARY_ACTIONS "shr" (.ref a_shifted_right)
  k_BINARY_ACTIONS_lt : KDct K w a_BINARY_ACTIONS "lt" (.ref a_is_less)
  k_BINARY_ACTIONS_le : KDct K w a_BINARY_ACTIONS "le" (.ref a_is_at_most)
  k_BINARY_ACTIONS_eq : KDct K w a_BINARY_ACTIONS "eq" (.ref a_is_equal)
  k_BINARY_ACTIONS_ne : KDct K w a_BINARY_ACTIONS "ne" (.ref a_is_other)
  k_BINARY_ACTIONS_min : KDct K w a_BINARY_ACTIONS "min" (.ref a_lesser)
  k_BINARY_ACTIONS_max : KDct K w a_BINARY_ACTIONS "max" (.ref a_greater)
  a_UNARY_ACTIONS : Addr
  q_UNARY_ACTIONS : ∃ u, mg "UNARY_ACTIONS" = some u ∧ RelV (.ref a_UNARY_ACTIONS) u
  k_UNARY_ACTIONS_neg : KDct K w a_UNARY_ACTIONS "neg" (.ref a_negative)
  k_UNARY_ACTIONS_not : KDct K w a_UNARY_ACTIONS "not" (.ref a_turned_bits)
  k_UNARY_ACTIONS_zero : KDct K w a_UNARY_ACTIONS "zero" (.ref a_is_zero)
  a_WRITTEN_AT : Addr
  q_WRITTEN_AT : ∃ u, mg "WRITTEN_AT" = some u ∧ RelV (.ref a_WRITTEN_AT) u
  w_WRITTEN_AT : KTab K w a_WRITTEN_AT [("word", .int (1)), ("param", .int (1)), ("special", .int (1)), ("copy", .int (1)), ("load", .int (1)), ("phi", .int (1)), ("unary", .int (2)), ("binary", .int (2)), ("collect", .int (2))]
  a_NO_REQUEST : Addr
  q_NO_REQUEST : ∃ u, mg "NO_REQUEST" = some u ∧ RelV (.ref a_NO_REQUEST) u
  t_NO_REQUEST : ∃ (o : Obj) (its : Array Value) (n : Nat), K.lookup a_NO_REQUEST = some o ∧ o.cls = .type "tuple" ∧ o.data = .seq its n ∧ its.size ≤ sizeLine ∧ Vals ([.str "none"]) its.toList
  q_GREATEST : ∃ u, mg "GREATEST" = some u ∧ RelV (.int (2147483647)) u
  q_FIRST_SHARED : ∃ u, mg "FIRST_SHARED" = some u ∧ RelV (.int (6)) u
  q_MOST_NUMBER : ∃ u, mg "MOST_NUMBER" = some u ∧ RelV (.int (99)) u
  q_MOST_CELLS : ∃ u, mg "MOST_CELLS" = some u ∧ RelV (.int (64)) u
  q_MOST_INSTRUCTIONS : ∃ u, mg "MOST_INSTRUCTIONS" = some u ∧ RelV (.int (2000)) u
  q_MOST_LETTERS : ∃ u, mg "MOST_LETTERS" = some u ∧ RelV (.int (12)) u
  q_MOST_PARAMS : ∃ u, mg "MOST_PARAMS" = some u ∧ RelV (.int (6)) u
  q_MOST_SHARED : ∃ u, mg "MOST_SHARED" = some u ∧ RelV (.int (3)) u
  q_MOST_SHARED_CELLS : ∃ u, mg "MOST_SHARED_CELLS" = some u ∧ RelV (.int (16)) u
  q_LETTERS : ∃ u, mg "LETTERS" = some u ∧ RelV (.str "abcdefghijklmnopqrstuvwxyz") u
  q_DIGITS : ∃ u, mg "DIGITS" = some u ∧ RelV (.str "0123456789") u
  a_SPECIALS : Addr
  q_SPECIALS : ∃ u, mg "SPECIALS" = some u ∧ RelV (.ref a_SPECIALS) u
  t_SPECIALS : ∃ (o : Obj) (its : Array Value) (n : Nat), K.lookup a_SPECIALS = some o ∧ o.cls = .type "tuple" ∧ o.data = .seq its n ∧ its.size ≤ sizeLine ∧ Vals ([.str "tid", .str "bid", .str "dim", .str "grid"]) its.toList
  a_UNARY : Addr
  q_UNARY : ∃ u, mg "UNARY" = some u ∧ RelV (.ref a_UNARY) u
  t_UNARY : ∃ (o : Obj) (its : Array Value) (n : Nat), K.lookup a_UNARY = some o ∧ o.cls = .type "tuple" ∧ o.data = .seq its n ∧ its.size ≤ sizeLine ∧ Vals ([.str "neg", .str "not", .str "zero"]) its.toList
  a_FOLDING : Addr
  q_FOLDING : ∃ u, mg "FOLDING" = some u ∧ RelV (.ref a_FOLDING) u
  t_FOLDING : ∃ (o : Obj) (its : Array Value) (n : Nat), K.lookup a_FOLDING = some o ∧ o.cls = .type "tuple" ∧ o.data = .seq its n ∧ its.size ≤ sizeLine ∧ Vals ([.str "add", .str "min", .str "max", .str "and", .str "or", .str "xor"]) its.toList
  a_BINARY : Addr
  q_BINARY : ∃ u, mg "BINARY" = some u ∧ RelV (.ref a_BINARY) u
  t_BINARY : ∃ (o : Obj) (its : Array Value) (n : Nat), K.lookup a_BINARY = some o ∧ o.cls = .type "tuple" ∧ o.data = .seq its n ∧ its.size ≤ sizeLine ∧ Vals ([.str "add", .str "sub", .str "mul", .str "div", .str "rem", .str "and", .str "or", .str "xor", .str "shl", .str "shr", .str "lt", .str "le", .str "eq", .str "ne", .str "min", .str "max"]) its.toList
  a_CODE_PARTS : Addr
  q_CODE_PARTS : ∃ u, mg "CODE_PARTS" = some u ∧ RelV (.ref a_CODE_PARTS) u
  p_CODE_PARTS_0 : Addr
  t_CODE_PARTS_0 : KTup K p_CODE_PARTS_0 [.str "write", .str "cell"]
  p_CODE_PARTS_1 : Addr
  t_CODE_PARTS_1 : KTup K p_CODE_PARTS_1 [.str "cell", .str "read"]
  p_CODE_PARTS_2 : Addr
  t_CODE_PARTS_2 : KTup K p_CODE_PARTS_2 [.str "index"]
  p_CODE_PARTS_3 : Addr
  t_CODE_PARTS_3 : KTup K p_CODE_PARTS_3 [.str "read", .str "index", .str "join"]
  p_CODE_PARTS_4 : Addr
  t_CODE_PARTS_4 : KTup K p_CODE_PARTS_4 []
  w_CODE_PARTS : KTab K w a_CODE_PARTS [("get", .ref p_CODE_PARTS_0), ("keep", .ref p_CODE_PARTS_1), ("jump", .ref p_CODE_PARTS_2), ("branch", .ref p_CODE_PARTS_3), ("exit", .ref p_CODE_PARTS_4)]
  a_INSTRUCTION_PARTS : Addr
  q_INSTRUCTION_PARTS : ∃ u, mg "INSTRUCTION_PARTS" = some u ∧ RelV (.ref a_INSTRUCTION_PARTS) u
  p_INSTRUCTION_PARTS_0 : Addr
  t_INSTRUCTION_PARTS_0 : KTup K p_INSTRUCTION_PARTS_0 [.str "write", .str "word"]
  p_INSTRUCTION_PARTS_1 : Addr
  t_INSTRUCTION_PARTS_1 : KTup K p_INSTRUCTION_PARTS_1 [.str "write", .str "param"]
  p_INSTRUCTION_PARTS_2 : Addr
  t_INSTRUCTION_PARTS_2 : KTup K p_INSTRUCTION_PARTS_2 [.str "write", .str "special"]
  p_INSTRUCTION_PARTS_3 : Addr
  t_INSTRUCTION_PARTS_3 : KTup K p_INSTRUCTION_PARTS_3 [.str "write", .str "read"]
  p_INSTRUCTION_PARTS_4 : Addr
  t_INSTRUCTION_PARTS_4 : KTup K p_INSTRUCTION_PARTS_4 [.str "unary", .str "write", .str "read"]
  p_INSTRUCTION_PARTS_5 : Addr
  t_INSTRUCTION_PARTS_5 : KTup K p_INSTRUCTION_PARTS_5 [.str "binary", .str "write", .str "read", .str "read"]
  p_INSTRUCTION_PARTS_6 : Addr
  t_INSTRUCTION_PARTS_6 : KTup K p_INSTRUCTION_PARTS_6 [.str "write", .str "array", .str "read"]
  p_INSTRUCTION_PARTS_7 : Addr
  t_INSTRUCTION_PARTS_7 : KTup K p_INSTRUCTION_PARTS_7 [.str "array", .str "read", .str "read"]
  p_INSTRUCTION_PARTS_8 : Addr
  t_INSTRUCTION_PARTS_8 : KTup K p_INSTRUCTION_PARTS_8 [.str "folding", .str "array", .str "read", .str "read"]
  p_INSTRUCTION_PARTS_9 : Addr
  t_INSTRUCTION_PARTS_9 : KTup K p_INSTRUCTION_PARTS_9 [.str "number"]
  p_INSTRUCTION_PARTS_10 : Addr
  t_INSTRUCTION_PARTS_10 : KTup K p_INSTRUCTION_PARTS_10 [.str "folding", .str "write", .str "read", .str "number"]
  w_INSTRUCTION_PARTS : KTab K w a_INSTRUCTION_PARTS [("word", .ref p_INSTRUCTION_PARTS_0), ("param", .ref p_INSTRUCTION_PARTS_1), ("special", .ref p_INSTRUCTION_PARTS_2), ("copy", .ref p_INSTRUCTION_PARTS_3), ("unary", .ref p_INSTRUCTION_PARTS_4), ("binary", .ref p_INSTRUCTION_PARTS_5), ("load", .ref p_INSTRUCTION_PARTS_6), ("store", .ref p_INSTRUCTION_PARTS_7), ("atomic", .ref p_INSTRUCTION_PARTS_8), ("barrier", .ref p_INSTRUCTION_PARTS_9), ("collect", .ref p_INSTRUCTION_PARTS_10)]
def rLenS (K : PySem.W.Frag) : List V → Hp → VK → Prop := fun us H Q => ∃ a ys, us = [.ref a] ∧ (SqL K H a ys ∨ SqT K H a ys) ∧ Q (.int ys.length) H
def rListOf (K : PySem.W.Frag) : List V → Hp → VK → Prop := fun us H Q => ∃ a ys, us = [.ref a] ∧ (SqL K H a ys ∨ SqT K H a ys) ∧ ∀ b, H b = none → Q (.ref b) (upd H b (.lst ys))
def rTupOf (K : PySem.W.Frag) : List V → Hp → VK → Prop := fun us H Q => ∃ a ys, us = [.ref a] ∧ ((SqL K H a ys ∧ ∀ b, H b = none → Q (.ref b) (upd H b (.tup ys))) ∨ (SqT K H a ys ∧ Q (.ref a) H))
theorem same_new5 {H : Hp} {p : Addr} {o : HO} (h : H p = none) : Same H (upd H p o) := fun b x e => by
  rw [upd_ne (ne_of_none e h)]
  exact e
section
variable {P : Program} {w : World} {K : PySem.W.Frag} {mg : Str → Option Value} {base : Heap}

/-! ### the law's stream of draws -/
/-- at p: a stream; which numbers it gives is left open -/
def Strm (q : Addr) (H : Hp) (p : Addr) : Prop := ∃ (cur pos mixed : Int) (ns : List Int), H p = some (.lst [.ref q, .int cur, .int pos, .int mixed]) ∧ H q = some (.lst (ns.map V.int)) ∧
  0 ≤ cur ∧ 0 ≤ pos ∧ pos ≤ ns.length ∧ ns.length ≤ 63 ∧ 0 ≤ mixed ∧ mixed < 2147483647
def But (p : Addr) (H H' : Hp) : Prop := ∀ b o, b ≠ p → H b = some o → H' b = some o
theorem But.refl {p : Addr} {H : Hp} : But p H H := fun _ _ _ h => h
theorem But.trans {p : Addr} {H H1 H2 : Hp} (a : But p H H1) (b : But p H1 H2) : But p H H2 := fun c o n h => b c o n (a c o n h)
theorem But.same {p : Addr} {H H1 H2 : Hp} (a : But p H H1) (b : Same H1 H2) : But p H H2 := fun c o n h => b c o (a c o n h)
theorem But.upd {p : Addr} {H H1 : Hp} {o : HO} (a : But p H H1) : But p H (L2.upd H1 p o) := fun c u n h => by rw [upd_ne n]; exact a c u n h
theorem same_new {H : Hp} {p : Addr} {o : HO} (h : H p = none) : Same H (upd H p o) := fun b x e => by
  rw [upd_ne (ne_of_none e h)]
  exact e
theorem Strm.same {q : Addr} {H H' : Hp} {p : Addr} (s : Strm q H p) (h : Same H H') : Strm q H' p := by
  obtain ⟨cur, pos, mixed, ns, e1, e2, r⟩ := s
  exact ⟨cur, pos, mixed, ns, h _ _ e1, h _ _ e2, r⟩
theorem Strm.upd {q : Addr} {H : Hp} {p D : Addr} {o : HO} (s : Strm q H p) (np : D ≠ p) (nq : D ≠ q) : Strm q (upd H D o) p := by
  obtain ⟨cur, pos, mixed, ns, e1, e2, r⟩ := s
  exact ⟨cur, pos, mixed, ns, by rw [upd_ne np.symm]; exact e1, by rw [upd_ne nq.symm]; exact e2, r⟩
theorem Strm.nep {q : Addr} {H : Hp} {p D : Addr} (s : Strm q H p) (h : H D = none) : D ≠ p := fun e => by
  obtain ⟨cur, pos, mixed, ns, e1, _⟩ := s
  rw [e, e1] at h
  cases h
theorem Strm.neq {q : Addr} {H : Hp} {p D : Addr} (s : Strm q H p) (h : H D = none) : D ≠ q := fun e => by
  obtain ⟨cur, pos, mixed, ns, _, e2, _⟩ := s
  rw [e, e2] at h
  cases h
theorem Strm.pq {q : Addr} {H : Hp} {p : Addr} (s : Strm q H p) : q ≠ p := fun z => by
  obtain ⟨cur, pos, mixed, ns, e1, e2, _⟩ := s
  rw [z, e1] at e2
  cases ns with
  | nil => cases e2
  | cons x r => cases e2
def sp_law_stream (K : PySem.W.Frag) : Sp := fun vs H Q _ => ∃ (a : Addr) (ns : List Int), vs = [.ref a] ∧ SqL K H a (ns.map V.int) ∧ ns.length ≤ 63 ∧ ∀ H' p q, Same H H' → H p = none → H q = none → Strm q H' p → Q (.ref p) H'
def sp_law_draw : Sp := fun vs H Q _ => ∃ (p q : Addr) (many : Int), vs = [.ref p, .int many] ∧ Strm q H p ∧ 0 < many ∧ many < 2 ^ 100 ∧ ∀ (v : Int) H', 0 ≤ v → v < many → But p H H' → Strm q H' p → Q (.int v) H'
theorem ok_law_stream (T : Tx w K mg) : FnOk P w K mg base CX0 1 T.a_law_stream T.d_law_stream ["script"] (sp_law_stream K) := by
  refine T.F_law_stream.ok sc_law_stream (fun vs H Q E h => ?_) (fun cdv A outer s H vs Q E hr h => ?_)
  · obtain ⟨a, ns, rfl, _⟩ := h
    rfl
  · obtain ⟨a, ns, rfl, hS, hlen, q⟩ := h
    refine ⟨_, (pss_cons (ps_set (i := 1) sc_law_stream.nd rfl (.inl rfl) pe_int)
      (pss_cons (ps_for PassesOwn.never rfl (pi_list (pv 0)) (pg_name (i := 2) sc_law_stream.nd rfl (.inl rfl)) (pss_one (ps_set (i := 1) sc_law_stream.nd rfl (.inl rfl) (pe_op op_mod (pe_callTy call_int1 (by rfl) T.z_int (by decide +kernel) (pa_cons (pe_op op_add (pe_op op_add (pe_op op_mul (pv 1) pe_int) (pe_op op_mod (pe_callTy call_int1 (by rfl) T.z_int (by decide +kernel) (pa_cons (pv 2) pa_nil)) pe_int)) pe_int) pa_nil)) pe_int))))
      (pss_one (ps_ret (pe_lst (pa_cons (pe_callTy call_list_of (by rfl) T.z_list (by decide +kernel) (pa_cons (pv 0) pa_nil)) (pa_cons pe_int (pa_cons pe_int (pa_cons (pv 1) pa_nil))))))))), ?_⟩
    refine ⟨_, rfl, a, rfl, ⟨_, hS⟩, for_list (K := K) (a := a) (xs := ns.map V.int) (fun i σ H' => ∃ (m : Int) (c : Option V), σ = [some (.ref a), some (.int m), c] ∧ 0 ≤ m ∧ m < 2147483647 ∧ H' = H) ⟨17, none, rfl, by decide, by decide, rfl⟩ (fun i σ H' _ ⟨_, _, _, _, _, e⟩ => by rw [e]; exact hS) ?_ ?_⟩
    · rintro i x σ H' hx ⟨m, c, rfl, h0, h1, rfl⟩
      obtain ⟨n, rfl⟩ : ∃ n, x = V.int n := by
        rw [List.getElem?_map] at hx
        cases e : ns[i]? with
        | none => rw [e] at hx; cases hx
        | some u => rw [e] at hx; exact ⟨u, (Option.some.inj hx).symm⟩
      refine ⟨_, rfl, _, _, rfl, rfl, .inl ⟨by omega, by omega⟩, _, rfl, .inl ⟨_, rfl, _, _, rfl, rfl, (by show (0 : Int) < 65521; decide), _, _, rfl, rfl, _, _, rfl, rfl, .inl ⟨_, rfl, _, _, rfl, rfl, (by show (0 : Int) < 2147483647; decide), ?_⟩⟩⟩
      exact ⟨_, _, rfl, Int.emod_nonneg _ (by decide), Int.emod_lt_of_pos _ (by decide), rfl⟩
    · rintro σ H' ⟨m, c, rfl, h0, h1, rfl⟩
      refine ⟨_, rfl, a, _, rfl, .inl hS, fun l nl => ⟨_, rfl, (by show 4 ≤ sizeLine; decide), fun p np => ?_⟩⟩
      have npl : p ≠ l := fun e => by rw [e, upd_same] at np; cases np
      have np0 : H' p = none := by rw [upd_ne npl] at np; exact np
      refine q _ p l ((same_new nl).trans (same_new np)) np0 nl ⟨0, 0, m, ns, upd_same, ?_, by decide, by decide, by omega, hlen, h0, h1⟩
      rw [upd_ne npl.symm, upd_same]
theorem ok_law_draw (T : Tx w K mg) : FnOk P w K mg base CX0 1 T.a_law_draw T.d_law_draw ["stream", "many"] sp_law_draw := by
  refine T.F_law_draw.ok sc_law_draw (fun vs H Q E h => ?_) (fun cdv A outer s H vs Q E hr h => ?_)
  · obtain ⟨p, q, many, rfl, _⟩ := h
    rfl
  · obtain ⟨p, q, many, rfl, hS, hm0, hm1, k⟩ := h
    refine ⟨_, (C8.pss_cut (ps_if (PW.pt (pw_and (pt_cmpR op_eq (pe_ix ix_list (pv 0) pe_int (fun _ _ => rfl)) pe_int (nomark _)) (pw_and1 (pt_cmpR op_lt (pe_ix ix_list (pv 0) pe_int (fun _ _ => rfl)) (pe_callB call_len_seq (by rfl) T.z_len (by decide +kernel) (pa_cons (pe_ix ix_list (pv 0) pe_int (fun _ _ => rfl)) pa_nil)) (nomark _))))) (pss_cons (ps_asg (pe_callB call_abs (by rfl) T.z_abs (by decide +kernel) (pa_cons (pe_callTy call_int1 (by rfl) T.z_int (by decide +kernel) (pa_cons (pe_ix ix_list (pe_ix ix_list (pv 0) pe_int (fun _ _ => rfl)) (pe_ix ix_list (pv 0) pe_int (fun _ _ => rfl)) (fun _ _ => rfl)) pa_nil)) pa_nil)) (pg_sub (pv 0) pe_int set_list))
      (pss_one (ps_asg (pe_op op_add (pe_ix ix_list (pv 0) pe_int (fun _ _ => rfl)) pe_int) (pg_sub (pv 0) pe_int set_list)))) pss_nil)
      (pss_cons (ps_if (pt_cmpR op_eq (pe_ix ix_list (pv 0) pe_int (fun _ _ => rfl)) pe_int (nomark _)) (pss_cons (ps_asg (pe_op op_mod (pe_callTy call_int1 (by rfl) T.z_int (by decide +kernel) (pa_cons (pe_op op_add (pe_op op_mul (pe_ix ix_list (pv 0) pe_int (fun _ _ => rfl)) pe_int) pe_int) pa_nil)) pe_int) (pg_sub (pv 0) pe_int set_list))
      (pss_one (ps_ret (pe_op op_mod (pe_callTy call_int1 (by rfl) T.z_int (by decide +kernel) (pa_cons (pe_op op_fdivW (pe_ix ix_list (pv 0) pe_int (fun _ _ => rfl)) pe_int) pa_nil)) (pv 1))))) pss_nil)
      (pss_cons (ps_set (i := 2) sc_law_draw.nd rfl (.inl rfl) (pe_op op_mod (pe_callTy call_int1 (by rfl) T.z_int (by decide +kernel) (pa_cons (pe_ix ix_list (pv 0) pe_int (fun _ _ => rfl)) pa_nil)) (pv 1)))
      (pss_cons (ps_asg (pe_op op_fdivW (pe_ix ix_list (pv 0) pe_int (fun _ _ => rfl)) (pv 1)) (pg_sub (pv 0) pe_int set_list))
      (pss_one (ps_ret (pv 2))))))), ?_⟩
    refine ⟨fun σ' H' => σ' = [some (.ref p), some (.int many), none] ∧ But p H H' ∧ Strm q H' p, ?_, ?_⟩
    · have hS0 := hS
      obtain ⟨cur, pos, mixed, ns, e1, e2, c0, p0, p1, l63, m0, m1⟩ := hS
      have nqp : q ≠ p := hS0.pq
      refine ⟨_, rfl, p, _, 1, _, rfl, rfl, SqL.of e1, rfl, rfl, _, rfl, ite2 (fun z1 => ?_) (fun z1 => iteF ⟨rfl, .refl, hS0⟩)⟩
      refine ⟨_, rfl, p, _, 2, _, rfl, rfl, SqL.of e1, rfl, _, rfl, p, _, 0, _, rfl, rfl, SqL.of e1, rfl, q, _, rfl, .inl (SqL.of e2), _, _, rfl, rfl, _, rfl, ite2 (fun z2 => ?_) (fun z2 => ⟨rfl, .refl, hS0⟩)⟩
      have hlt : pos < ns.length := by
        have z3 := of_decide_eq_true z2
        rw [List.length_map] at z3
        exact z3
      obtain ⟨j, rfl⟩ : ∃ j : Nat, pos = (j : Int) := ⟨pos.toNat, by omega⟩
      have hj : j < ns.length := by omega
      have g : (ns.map V.int)[j]? = some (.int ns[j]) := by
        rw [List.getElem?_map, List.getElem?_eq_getElem hj]
        rfl
      refine ⟨_, rfl, p, _, 0, _, rfl, rfl, SqL.of e1, rfl, _, rfl, p, _, 2, _, rfl, rfl, SqL.of e1, rfl, q, _, _, _, rfl, rfl, SqL.of e2, atI_nat g, .inl ⟨_, rfl, _, rfl, ?_⟩⟩
      refine ⟨_, rfl, p, _, 1, 1, rfl, rfl, e1, rfl, ?_⟩
      refine ⟨_, rfl, p, _, 2, _, rfl, rfl, SqL.of upd_same, rfl, _, _, rfl, rfl, _, rfl, p, _, 2, 2, rfl, rfl, upd_same, rfl, ?_⟩
      refine ⟨rfl, But.upd (But.upd .refl), (if ns[j] < 0 then -ns[j] else ns[j]), (j : Int) + 1, mixed, ns, upd_same, ?_, by split <;> omega, by omega, by omega, l63, m0, m1⟩
      rw [upd_ne nqp, upd_ne nqp]
      exact e2
    · rintro σ' H' ⟨rfl, hB, hS2⟩
      have nqp : q ≠ p := hS2.pq
      obtain ⟨cur, pos, mixed, ns, e1, e2, c0, p0, p1, l63, m0, m1⟩ := hS2
      refine ⟨_, rfl, p, _, 1, _, rfl, rfl, SqL.of e1, rfl, rfl, _, rfl, ite2 (fun z1 => ?_) (fun z1 => ?_)⟩
      · refine ⟨_, rfl, p, _, 3, _, rfl, rfl, SqL.of e1, rfl, _, _, rfl, rfl, .inl ⟨by omega, by omega⟩, _, _, rfl, rfl, .inl ⟨_, rfl, _, _, rfl, rfl, (by show (0 : Int) < 2147483647; decide), ?_⟩⟩
        refine ⟨_, rfl, p, _, 3, 3, rfl, rfl, e1, rfl, ?_⟩
        refine ⟨_, rfl, p, _, 3, _, rfl, rfl, SqL.of upd_same, rfl, _, _, rfl, rfl, wide_div (b := 8) (by decide) (by decide) (by decide) (by decide), .inl ⟨_, rfl, _, rfl, _, _, rfl, rfl, hm0, ?_⟩⟩
        refine k _ _ (Int.emod_nonneg _ (by omega)) (Int.emod_lt_of_pos _ hm0) (But.upd hB) ⟨cur, pos, _, ns, upd_same, by rw [upd_ne nqp]; exact e2, c0, p0, p1, l63, Int.emod_nonneg _ (by decide), Int.emod_lt_of_pos _ (by decide)⟩
      · refine ⟨_, rfl, p, _, 1, _, rfl, rfl, SqL.of e1, rfl, .inl ⟨_, rfl, _, rfl, _, _, rfl, rfl, hm0, ?_⟩⟩
        have hw : CDivW cur many := wide_div (b := 100) hm0 (by omega) (by decide) (by decide)
        refine ⟨_, rfl, p, _, 1, _, rfl, rfl, SqL.of e1, rfl, _, rfl, _, _, rfl, rfl, hw, _, rfl, p, _, 1, 1, rfl, rfl, e1, rfl, _, rfl, ?_⟩
        exact k _ _ (Int.emod_nonneg _ (by omega)) (Int.emod_lt_of_pos _ hm0) (But.upd hB) ⟨_, pos, _, ns, upd_same, by rw [upd_ne nqp]; exact e2, Int.ediv_nonneg c0 (by omega), p0, p1, l63, m0, m1⟩
set_option maxHeartbeats 400000
set_option hygiene false
local macro_rules | `(tactic| walk_at "mem") => `(tactic| (repeat (first | exact List.Mem.head _ | refine List.Mem.tail _ ?_)))
local macro_rules | `(tactic| walk_at "one") => `(tactic| first | exact Dt.int _ | exact Dt.str _ | exact Dt.bl _ | exact Dt.non | exact S.get (by walk_at "mem") | exact S.list (by walk_at "mem") (by simp))
local macro_rules | `(tactic| walk_at "has") => `(tactic| first | exact DtAll.nil | exact DtAll.cons (by walk_at "one") (by walk_at "has"))
local macro_rules | `(tactic| walk_at "size") => `(tactic| first | exact Nat.zero_le _ | exact Nat.le_of_lt (small1000 (Nat.le_of_ble_eq_true rfl)))
local macro_rules | `(tactic| walk_at "obj") => `(tactic| (refine ⟨by walk_at "size", fun t n => ?_⟩; generalize hx : L2.upd _ t _ = Hc; (first | replace S := S.tup' n hx (by walk_at "has") | replace S := S.lst' n hx (by walk_at "has")); clear n hx))
local macro_rules | `(tactic| walk_at "cat") => `(tactic| (refine ⟨_, _, _, _, rfl, rfl, (S.getL (by walk_at "mem")).1, (S.getL (by walk_at "mem")).1, S.catSize (by walk_at "mem") (by walk_at "mem") (Nat.le_of_ble_eq_true rfl), fun t n => ?_⟩; generalize hx : L2.upd _ t _ = Hc; replace S := S.lst' n hx (DtAll.app (S.getL (by walk_at "mem")).2 (S.getL (by walk_at "mem")).2); dsimp only [List.cons_append, List.nil_append] at S; clear n hx))
local macro_rules | `(tactic| walk_at "draw") => `(tactic| (refine ⟨_, _, _, rfl, S.str, (by first | decide | omega), (by first | decide | omega), fun u Hc u0 u1 b s => ?_⟩; replace S := S.draw b s; clear b s))
local macro_rules | `(tactic| walk_at "pick") => `(tactic| (obtain ⟨v, e, h2, h3, h4, h5⟩ := DtAll.pick (S.getL (a := t) (by walk_at "mem")).2 u0 (by first | exact u1 | omega); refine ⟨_, _, _, _, rfl, rfl, SqL.of (S.getL (a := t) (by walk_at "mem")).1, h2, ?_⟩; replace S := S.put h5; clear h2 h3 h5 u0 u1))
local macro_rules | `(tactic| walk_at "go") => `(tactic| repeat (first | refine ⟨_, rfl, ?_⟩ | walk_at "obj" | walk_at "cat"))
set_option hygiene true
set_option hygiene false
local macro_rules | `(tactic| walk_at "trim") => `(tactic| exact S.sub (fun x hx => by (repeat (first | exact hx | refine List.Mem.tail _ ?_))) (by (repeat (first | exact List.Sublist.refl _ | refine List.Sublist.cons _ ?_))))
set_option hygiene true
set_option hygiene false
local macro_rules | `(tactic| walk_at "eqs") => `(tactic| first | refine iteN (by decide +kernel) ?_ | refine iteY (by decide +kernel) ?_)
local macro_rules | `(tactic| walk_at "test") => `(tactic| first | (refine ⟨_, rfl, rfl, _, rfl, iteN (by decide +kernel) ?_⟩) | (refine ⟨_, rfl, rfl, _, rfl, iteY (by decide +kernel) ?_⟩))
local macro_rules | `(tactic| walk_at "kind") => `(tactic| (refine ⟨_, rfl, _, _, _, _, rfl, rfl, sq, rfl, ?_⟩))
local macro_rules | `(tactic| walk_at "tix") => `(tactic| first | (refine ⟨_, rfl, _, _, _, _, rfl, rfl, sq, rfl, rfl, _, rfl, iteN (by decide +kernel) ?_⟩) | (refine ⟨_, rfl, _, _, _, _, rfl, rfl, sq, rfl, rfl, _, rfl, iteY (by decide +kernel) ?_⟩))
local macro_rules | `(tactic| walk_at "trim1") => `(tactic| exact S.sub (fun x hx => by (rcases List.mem_cons.mp hx with rfl | hx; (exact List.Mem.head _); (repeat (first | exact hx | refine List.Mem.tail _ ?_)))) (List.Sublist.refl _))
set_option hygiene true
/-! ### promises -/
def sp1 (g : Int → Int) : Sp := fun vs H Q _ => ∃ n : Int, vs = [.int n] ∧ Q (.int (g n)) H
def spAct (o : Op) : Sp := fun vs H Q _ => ∃ a b : Int, vs = [.int a, .int b] ∧ W a ∧ W b ∧ Q (.int (act o a b)) H
def spU (o : Uop) : Sp := fun vs H Q _ => ∃ a : Int, vs = [.int a] ∧ W a ∧ Q (.int (uact o a)) H
def spBinary : Sp := fun vs H Q _ => ∃ (o : Op) (a b : Int), vs = [.str o.s, .int a, .int b] ∧ W a ∧ W b ∧ Q (.int (wrap (act o a b))) H
def spUnary : Sp := fun vs H Q _ => ∃ (o : Uop) (a : Int), vs = [.str o.s, .int a] ∧ W a ∧ Q (.int (wrap (uact o a))) H
theorem ok_wrapped (T : Tx w K mg) : FnOk P w K mg base CX0 1 T.a_wrapped T.d_wrapped ["number"] (sp1 wrap) := by
  refine T.F_wrapped.ok sc_wrapped (fun vs H Q E h => ?_) (fun cdv A outer s H vs Q E hr h => ?_)
  · obtain ⟨n, rfl, _⟩ := h
    rfl
  · obtain ⟨n, rfl, q⟩ := h
    refine ⟨_, (pss_one (ps_ret (pe_op op_add (pe_op op_mod (pe_op op_sub (pv 0) (pe_gq (by rfl) T.q_LEAST)) (pe_op op_pow pe_int pe_int)) (pe_gq (by rfl) T.q_LEAST)))), ?_⟩
    exact ⟨_, rfl, _, _, rfl, rfl, _, _, rfl, rfl, ⟨by decide, by decide, by decide⟩, _, _, rfl, rfl, by show (0 : Int) < 2 ^ (32 : Int).toNat; decide, _, _, rfl, rfl, q⟩
theorem ok_sum_of (T : Tx w K mg) : FnOk P w K mg base CX0 1 T.a_sum_of T.d_sum_of ["a", "b"] (spAct .add) := by
  refine T.F_sum_of.ok sc_sum_of (fun vs H Q E h => ?_) (fun cdv A outer s H vs Q E hr h => ?_)
  · obtain ⟨a, b, rfl, _⟩ := h
    rfl
  · obtain ⟨a, b, rfl, wa, wb, q⟩ := h
    refine ⟨_, (pss_one (ps_ret (pe_op op_add (pv 0) (pv 1)))), ?_⟩
    exact ⟨_, rfl, _, rfl, _, _, rfl, rfl, q⟩
theorem ok_difference (T : Tx w K mg) : FnOk P w K mg base CX0 1 T.a_difference T.d_difference ["a", "b"] (spAct .sub) := by
  refine T.F_difference.ok sc_difference (fun vs H Q E h => ?_) (fun cdv A outer s H vs Q E hr h => ?_)
  · obtain ⟨a, b, rfl, _⟩ := h
    rfl
  · obtain ⟨a, b, rfl, wa, wb, q⟩ := h
    refine ⟨_, (pss_one (ps_ret (pe_op op_sub (pv 0) (pv 1)))), ?_⟩
    exact ⟨_, rfl, _, rfl, _, _, rfl, rfl, q⟩
theorem ok_product_of (T : Tx w K mg) : FnOk P w K mg base CX0 1 T.a_product_of T.d_product_of ["a", "b"] (spAct .mul) := by
  refine T.F_product_of.ok sc_product_of (fun vs H Q E h => ?_) (fun cdv A outer s H vs Q E hr h => ?_)
  · obtain ⟨a, b, rfl, _⟩ := h
    rfl
  · obtain ⟨a, b, rfl, wa, wb, q⟩ := h
    refine ⟨_, (pss_one (ps_ret (pe_op op_mul (pv 0) (pv 1)))), ?_⟩
    exact ⟨_, rfl, _, rfl, _, _, rfl, rfl, .inl ⟨by unfold W at wa; omega, by unfold W at wa; omega⟩, q⟩
theorem ok_bits_of_both (T : Tx w K mg) : FnOk P w K mg base CX0 1 T.a_bits_of_both T.d_bits_of_both ["a", "b"] (spAct .and) := by
  refine T.F_bits_of_both.ok sc_bits_of_both (fun vs H Q E h => ?_) (fun cdv A outer s H vs Q E hr h => ?_)
  · obtain ⟨a, b, rfl, _⟩ := h
    rfl
  · obtain ⟨a, b, rfl, wa, wb, q⟩ := h
    refine ⟨_, (pss_one (ps_ret (pe_op op_and (pv 0) (pv 1)))), ?_⟩
    exact ⟨_, rfl, _, rfl, _, _, rfl, rfl, q⟩
theorem ok_bits_of_any (T : Tx w K mg) : FnOk P w K mg base CX0 1 T.a_bits_of_any T.d_bits_of_any ["a", "b"] (spAct .or) := by
  refine T.F_bits_of_any.ok sc_bits_of_any (fun vs H Q E h => ?_) (fun cdv A outer s H vs Q E hr h => ?_)
  · obtain ⟨a, b, rfl, _⟩ := h
    rfl
  · obtain ⟨a, b, rfl, wa, wb, q⟩ := h
    refine ⟨_, (pss_one (ps_ret (pe_op op_or (pv 0) (pv 1)))), ?_⟩
    exact ⟨_, rfl, _, rfl, _, _, rfl, rfl, q⟩
theorem ok_bits_of_one (T : Tx w K mg) : FnOk P w K mg base CX0 1 T.a_bits_of_one T.d_bits_of_one ["a", "b"] (spAct .xor) := by
  refine T.F_bits_of_one.ok sc_bits_of_one (fun vs H Q E h => ?_) (fun cdv A outer s H vs Q E hr h => ?_)
  · obtain ⟨a, b, rfl, _⟩ := h
    rfl
  · obtain ⟨a, b, rfl, wa, wb, q⟩ := h
    refine ⟨_, (pss_one (ps_ret (pe_op op_xor (pv 0) (pv 1)))), ?_⟩
    exact ⟨_, rfl, _, rfl, _, _, rfl, rfl, q⟩
theorem ok_shifted_left (T : Tx w K mg) : FnOk P w K mg base CX0 1 T.a_shifted_left T.d_shifted_left ["a", "b"] (spAct .shl) := by
  refine T.F_shifted_left.ok sc_shifted_left (fun vs H Q E h => ?_) (fun cdv A outer s H vs Q E hr h => ?_)
  · obtain ⟨a, b, rfl, _⟩ := h
    rfl
  · obtain ⟨a, b, rfl, wa, wb, q⟩ := h
    refine ⟨_, (pss_one (ps_ret (pe_op op_shl (pv 0) (pe_op op_and (pv 1) pe_int)))), ?_⟩
    have e := bitAnd_m5 b
    exact ⟨_, rfl, _, rfl, _, _, rfl, rfl, _, _, rfl, rfl, ⟨by rw [e]; omega, by rw [e]; omega, by unfold W at wa; omega⟩, q⟩
theorem ok_shifted_right (T : Tx w K mg) : FnOk P w K mg base CX0 1 T.a_shifted_right T.d_shifted_right ["a", "b"] (spAct .shr) := by
  refine T.F_shifted_right.ok sc_shifted_right (fun vs H Q E h => ?_) (fun cdv A outer s H vs Q E hr h => ?_)
  · obtain ⟨a, b, rfl, _⟩ := h
    rfl
  · obtain ⟨a, b, rfl, wa, wb, q⟩ := h
    refine ⟨_, (pss_one (ps_ret (pe_op op_shr (pv 0) (pe_op op_and (pv 1) pe_int)))), ?_⟩
    have e := bitAnd_m5 b
    exact ⟨_, rfl, _, rfl, _, _, rfl, rfl, _, _, rfl, rfl, by show 0 ≤ Builtin.bitAnd b 31; rw [e]; omega, q⟩
theorem ok_is_less (T : Tx w K mg) : FnOk P w K mg base CX0 1 T.a_is_less T.d_is_less ["a", "b"] (spAct .lt) := by
  refine T.F_is_less.ok sc_is_less (fun vs H Q E h => ?_) (fun cdv A outer s H vs Q E hr h => ?_)
  · obtain ⟨a, b, rfl, _⟩ := h
    rfl
  · obtain ⟨a, b, rfl, wa, wb, q⟩ := h
    refine ⟨_, (pss_one (ps_ret (pe_ifExp (pt_cmpR op_lt (pv 0) (pv 1) (nomark _)) pe_int pe_int))), ?_⟩
    refine ⟨_, rfl, _, rfl, _, _, rfl, rfl, _, rfl, ite2 (fun e => ?_) (fun e => ?_)⟩
    · have hc : a < b := of_decide_eq_true e
      have e2 : act .lt a b = 1 := if_pos hc
      rw [e2] at q
      exact q
    · have hc : ¬ (a < b) := fun z => e (decide_eq_true z)
      have e2 : act .lt a b = 0 := if_neg hc
      rw [e2] at q
      exact q
theorem ok_is_at_most (T : Tx w K mg) : FnOk P w K mg base CX0 1 T.a_is_at_most T.d_is_at_most ["a", "b"] (spAct .le) := by
  refine T.F_is_at_most.ok sc_is_at_most (fun vs H Q E h => ?_) (fun cdv A outer s H vs Q E hr h => ?_)
  · obtain ⟨a, b, rfl, _⟩ := h
    rfl
  · obtain ⟨a, b, rfl, wa, wb, q⟩ := h
    refine ⟨_, (pss_one (ps_ret (pe_ifExp (pt_cmpR op_le (pv 0) (pv 1) (nomark _)) pe_int pe_int))), ?_⟩
    refine ⟨_, rfl, _, rfl, _, _, rfl, rfl, _, rfl, ite2 (fun e => ?_) (fun e => ?_)⟩
    · have hc : a ≤ b := of_decide_eq_true e
      have e2 : act .le a b = 1 := if_pos hc
      rw [e2] at q
      exact q
    · have hc : ¬ (a ≤ b) := fun z => e (decide_eq_true z)
      have e2 : act .le a b = 0 := if_neg hc
      rw [e2] at q
      exact q
theorem ok_is_equal (T : Tx w K mg) : FnOk P w K mg base CX0 1 T.a_is_equal T.d_is_equal ["a", "b"] (spAct .eq) := by
  refine T.F_is_equal.ok sc_is_equal (fun vs H Q E h => ?_) (fun cdv A outer s H vs Q E hr h => ?_)
  · obtain ⟨a, b, rfl, _⟩ := h
    rfl
  · obtain ⟨a, b, rfl, wa, wb, q⟩ := h
    refine ⟨_, (pss_one (ps_ret (pe_ifExp (pt_cmpR op_eq (pv 0) (pv 1) (nomark _)) pe_int pe_int))), ?_⟩
    refine ⟨_, rfl, _, rfl, rfl, _, rfl, ite2 (fun e => ?_) (fun e => ?_)⟩
    · have hc : a = b := V.int.inj (of_decide_eq_true e)
      have e2 : act .eq a b = 1 := if_pos hc
      rw [e2] at q
      exact q
    · have hc : ¬ (a = b) := fun z => e (decide_eq_true (by rw [z]))
      have e2 : act .eq a b = 0 := if_neg hc
      rw [e2] at q
      exact q
theorem ok_is_other (T : Tx w K mg) : FnOk P w K mg base CX0 1 T.a_is_other T.d_is_other ["a", "b"] (spAct .ne) := by
  refine T.F_is_other.ok sc_is_other (fun vs H Q E h => ?_) (fun cdv A outer s H vs Q E hr h => ?_)
  · obtain ⟨a, b, rfl, _⟩ := h
    rfl
  · obtain ⟨a, b, rfl, wa, wb, q⟩ := h
    refine ⟨_, (pss_one (ps_ret (pe_ifExp (pt_cmpR op_ne (pv 0) (pv 1) (nomark _)) pe_int pe_int))), ?_⟩
    refine ⟨_, rfl, _, rfl, rfl, _, rfl, ite2 (fun e => ?_) (fun e => ?_)⟩
    · have hc : a ≠ b := fun z => by subst z; simp at e
      have e2 : act .ne a b = 1 := if_pos hc
      rw [e2] at q
      exact q
    · have hc : ¬ (a ≠ b) := fun z => e (by simpa using z)
      have e2 : act .ne a b = 0 := if_neg hc
      rw [e2] at q
      exact q
theorem ok_lesser (T : Tx w K mg) : FnOk P w K mg base CX0 1 T.a_lesser T.d_lesser ["a", "b"] (spAct .min) := by
  refine T.F_lesser.ok sc_lesser (fun vs H Q E h => ?_) (fun cdv A outer s H vs Q E hr h => ?_)
  · obtain ⟨a, b, rfl, _⟩ := h
    rfl
  · obtain ⟨a, b, rfl, wa, wb, q⟩ := h
    refine ⟨_, (pss_one (ps_ret (pe_ifExp (pt_cmpR op_lt (pv 0) (pv 1) (nomark _)) (pv 0) (pv 1)))), ?_⟩
    refine ⟨_, rfl, _, rfl, _, _, rfl, rfl, _, rfl, ite2 (fun e => ?_) (fun e => ?_)⟩
    · have e2 : act .min a b = a := if_pos (of_decide_eq_true e)
      rw [e2] at q
      exact ⟨_, rfl, q⟩
    · have e2 : act .min a b = b := if_neg fun z => e (decide_eq_true z)
      rw [e2] at q
      exact ⟨_, rfl, q⟩
theorem ok_greater (T : Tx w K mg) : FnOk P w K mg base CX0 1 T.a_greater T.d_greater ["a", "b"] (spAct .max) := by
  refine T.F_greater.ok sc_greater (fun vs H Q E h => ?_) (fun cdv A outer s H vs Q E hr h => ?_)
  · obtain ⟨a, b, rfl, _⟩ := h
    rfl
  · obtain ⟨a, b, rfl, wa, wb, q⟩ := h
    refine ⟨_, (pss_one (ps_ret (pe_ifExp (pt_cmpR op_gt (pv 0) (pv 1) (nomark _)) (pv 0) (pv 1)))), ?_⟩
    refine ⟨_, rfl, _, rfl, _, _, rfl, rfl, _, rfl, ite2 (fun e => ?_) (fun e => ?_)⟩
    · have e2 : act .max a b = a := if_pos (of_decide_eq_true e)
      rw [e2] at q
      exact ⟨_, rfl, q⟩
    · have e2 : act .max a b = b := if_neg fun z => e (decide_eq_true z)
      rw [e2] at q
      exact ⟨_, rfl, q⟩
theorem ok_quotient (T : Tx w K mg) : FnOk P w K mg base CX0 1 T.a_quotient T.d_quotient ["a", "b"] (spAct .div) := by
  refine T.F_quotient.ok sc_quotient (fun vs H Q E h => ?_) (fun cdv A outer s H vs Q E hr h => ?_)
  · obtain ⟨a, b, rfl, _⟩ := h
    rfl
  · obtain ⟨a, b, rfl, wa, wb, q⟩ := h
    refine ⟨_, (pss_cons (ps_if (pt_cmpR op_eq (pv 1) pe_int (nomark _)) (pss_one (ps_ret pe_int)) pss_nil)
      (pss_cons (ps_set (i := 2) sc_quotient.nd rfl (.inl rfl) (pe_op op_fdivW (pe_callB call_abs (by rfl) T.z_abs (by decide +kernel) (pa_cons (pv 0) pa_nil)) (pe_callB call_abs (by rfl) T.z_abs (by decide +kernel) (pa_cons (pv 1) pa_nil))))
      (pss_one (ps_ret (pe_ifExp (pt_cmpR op_eq (pe_cmpR op_lt (pv 0) pe_int (nomark _)) (pe_cmpR op_lt (pv 1) pe_int (nomark _)) (nomark _)) (pv 2) (pe_un un_neg (pv 2))))))), ?_⟩
    refine ⟨_, rfl, rfl, _, rfl, ite2 (fun e => ?_) (fun e => ?_)⟩
    · have hb : b = 0 := V.int.inj (of_decide_eq_true e)
      have e2 : act .div a b = 0 := if_pos hb
      rw [e2] at q
      exact q
    · have hb : ¬ b = 0 := fun z => e (decide_eq_true (by rw [z]))
      have e2 : act .div a b = if decide (a < 0) = decide (b < 0) then ab a / ab b else -(ab a / ab b) := if_neg hb
      rw [e2] at q
      refine ⟨_, rfl, _, rfl, _, rfl, _, rfl, _, _, rfl, rfl, ?_, ?_⟩
      · have h1 : (0 : Int) < ab b := by unfold ab; split <;> omega
        have h2 : (ab b).natAbs < 2 ^ 32 := by unfold W at wb; unfold ab; split <;> omega
        exact wide_div h1 h2 (by decide) (by decide)
      · refine ⟨_, rfl, _, _, rfl, rfl, _, rfl, _, _, rfl, rfl, rfl, _, rfl, ite2 (fun z => ?_) (fun z => ?_)⟩
        · rw [if_pos (V.bl.inj (of_decide_eq_true z))] at q
          exact ⟨_, rfl, q⟩
        · rw [if_neg fun y => z (decide_eq_true (congrArg V.bl y))] at q
          exact ⟨_, rfl, _, rfl, q⟩
theorem ok_remainder (T : Tx w K mg) : FnOk P w K mg base CX0 2 T.a_remainder T.d_remainder ["a", "b"] (spAct .rem) := by
  refine T.F_remainder.ok sc_remainder (fun vs H Q E h => ?_) (fun cdv A outer s H vs Q E hr h => ?_)
  · obtain ⟨a, b, rfl, _⟩ := h
    rfl
  · obtain ⟨a, b, rfl, wa, wb, q⟩ := h
    refine ⟨_, (pss_one (ps_ret (pe_ifExp (pt_cmpR op_eq (pv 1) pe_int (nomark _)) pe_int (pe_op op_sub (pv 0) (pe_op op_mul (pv 1) (pe_call (ok_quotient T) (hr.mono (by decide)) (by rfl) T.g_quotient T.F_quotient.kp T.b_quotient .nil pass0 (pa_cons (pv 0) (pa_cons (pv 1) pa_nil)))))))), ?_⟩
    refine ⟨_, rfl, rfl, _, rfl, ite2 (fun e => ?_) (fun e => ?_)⟩
    · have hb : b = 0 := V.int.inj (of_decide_eq_true e)
      have e2 : act .rem a b = 0 := if_pos hb
      rw [e2] at q
      exact q
    · have hb : ¬ b = 0 := fun z => e (decide_eq_true (by rw [z]))
      have e2 : act .rem a b = a - b * quo a b := if_neg hb
      rw [e2] at q
      exact ⟨_, rfl, _, rfl, _, rfl, _, rfl, _, _, rfl, wa, wb, _, _, rfl, rfl, .inl ⟨by unfold W at wb; omega, by unfold W at wb; omega⟩, _, _, rfl, rfl, q⟩
theorem ok_negative (T : Tx w K mg) : FnOk P w K mg base CX0 1 T.a_negative T.d_negative ["a"] (spU .neg) := by
  refine T.F_negative.ok sc_negative (fun vs H Q E h => ?_) (fun cdv A outer s H vs Q E hr h => ?_)
  · obtain ⟨a, rfl, _⟩ := h
    rfl
  · obtain ⟨a, rfl, wa, q⟩ := h
    refine ⟨_, (pss_one (ps_ret (pe_un un_neg (pv 0)))), ?_⟩
    exact ⟨_, rfl, _, rfl, q⟩
theorem ok_turned_bits (T : Tx w K mg) : FnOk P w K mg base CX0 1 T.a_turned_bits T.d_turned_bits ["a"] (spU .not) := by
  refine T.F_turned_bits.ok sc_turned_bits (fun vs H Q E h => ?_) (fun cdv A outer s H vs Q E hr h => ?_)
  · obtain ⟨a, rfl, _⟩ := h
    rfl
  · obtain ⟨a, rfl, wa, q⟩ := h
    refine ⟨_, (pss_one (ps_ret (pe_un un_inv (pv 0)))), ?_⟩
    exact ⟨_, rfl, _, rfl, q⟩
theorem ok_is_zero (T : Tx w K mg) : FnOk P w K mg base CX0 1 T.a_is_zero T.d_is_zero ["a"] (spU .zero) := by
  refine T.F_is_zero.ok sc_is_zero (fun vs H Q E h => ?_) (fun cdv A outer s H vs Q E hr h => ?_)
  · obtain ⟨a, rfl, _⟩ := h
    rfl
  · obtain ⟨a, rfl, wa, q⟩ := h
    refine ⟨_, (pss_one (ps_ret (pe_ifExp (pt_cmpR op_eq (pv 0) pe_int (nomark _)) pe_int pe_int))), ?_⟩
    refine ⟨_, rfl, rfl, _, rfl, ite2 (fun e => ?_) (fun e => ?_)⟩
    · have e2 : uact .zero a = 1 := if_pos (V.int.inj (of_decide_eq_true e))
      rw [e2] at q
      exact q
    · have e2 : uact .zero a = 0 := if_neg fun z => e (decide_eq_true (by rw [z]))
      rw [e2] at q
      exact q
/-- the action of an operator: where the table holds it, and what it promises -/
theorem act_at (T : Tx w K mg) : ∀ o : Op, ∃ f : Addr, KDct K w T.a_BINARY_ACTIONS o.s (.ref f) ∧ Held P w K mg base 2 f (spAct o)
  | .add => ⟨_, T.k_BINARY_ACTIONS_add, ⟨_, _, (ok_sum_of T).mono (by decide), T.F_sum_of.kp, T.b_sum_of⟩⟩
  | .sub => ⟨_, T.k_BINARY_ACTIONS_sub, ⟨_, _, (ok_difference T).mono (by decide), T.F_difference.kp, T.b_difference⟩⟩
  | .mul => ⟨_, T.k_BINARY_ACTIONS_mul, ⟨_, _, (ok_product_of T).mono (by decide), T.F_product_of.kp, T.b_product_of⟩⟩
  | .div => ⟨_, T.k_BINARY_ACTIONS_div, ⟨_, _, (ok_quotient T).mono (by decide), T.F_quotient.kp, T.b_quotient⟩⟩
  | .rem => ⟨_, T.k_BINARY_ACTIONS_rem, ⟨_, _, ok_remainder T, T.F_remainder.kp, T.b_remainder⟩⟩
  | .and => ⟨_, T.k_BINARY_ACTIONS_and, ⟨_, _, (ok_bits_of_both T).mono (by decide), T.F_bits_of_both.kp, T.b_bits_of_both⟩⟩
  | .or => ⟨_, T.k_BINARY_ACTIONS_or, ⟨_, _, (ok_bits_of_any T).mono (by decide), T.F_bits_of_any.kp, T.b_bits_of_any⟩⟩
  | .xor => ⟨_, T.k_BINARY_ACTIONS_xor, ⟨_, _, (ok_bits_of_one T).mono (by decide), T.F_bits_of_one.kp, T.b_bits_of_one⟩⟩
  | .shl => ⟨_, T.k_BINARY_ACTIONS_shl, ⟨_, _, (ok_shifted_left T).mono (by decide), T.F_shifted_left.kp, T.b_shifted_left⟩⟩
  | .shr => ⟨_, T.k_BINARY_ACTIONS_shr, ⟨_, _, (ok_shifted_right T).mono (by decide), T.F_shifted_right.kp, T.b_shifted_right⟩⟩
  | .lt => ⟨_, T.k_BINARY_ACTIONS_lt, ⟨_, _, (ok_is_less T).mono (by decide), T.F_is_less.kp, T.b_is_less⟩⟩
  | .le => ⟨_, T.k_BINARY_ACTIONS_le, ⟨_, _, (ok_is_at_most T).mono (by decide), T.F_is_at_most.kp, T.b_is_at_most⟩⟩
  | .eq => ⟨_, T.k_BINARY_ACTIONS_eq, ⟨_, _, (ok_is_equal T).mono (by decide), T.F_is_equal.kp, T.b_is_equal⟩⟩
  | .ne => ⟨_, T.k_BINARY_ACTIONS_ne, ⟨_, _, (ok_is_other T).mono (by decide), T.F_is_other.kp, T.b_is_other⟩⟩
  | .min => ⟨_, T.k_BINARY_ACTIONS_min, ⟨_, _, (ok_lesser T).mono (by decide), T.F_lesser.kp, T.b_lesser⟩⟩
  | .max => ⟨_, T.k_BINARY_ACTIONS_max, ⟨_, _, (ok_greater T).mono (by decide), T.F_greater.kp, T.b_greater⟩⟩
theorem uact_at (T : Tx w K mg) : ∀ o : Uop, ∃ f : Addr, KDct K w T.a_UNARY_ACTIONS o.s (.ref f) ∧ Held P w K mg base 1 f (spU o)
  | .neg => ⟨_, T.k_UNARY_ACTIONS_neg, ⟨_, _, ok_negative T, T.F_negative.kp, T.b_negative⟩⟩
  | .not => ⟨_, T.k_UNARY_ACTIONS_not, ⟨_, _, ok_turned_bits T, T.F_turned_bits.kp, T.b_turned_bits⟩⟩
  | .zero => ⟨_, T.k_UNARY_ACTIONS_zero, ⟨_, _, ok_is_zero T, T.F_is_zero.kp, T.b_is_zero⟩⟩
theorem ok_binary (T : Tx w K mg) : FnOk P w K mg base CX0 3 T.a_binary T.d_binary ["op", "a", "b"] spBinary := by
  refine T.F_binary.ok sc_binary (fun vs H Q E h => ?_) (fun cdv A outer s H vs Q E hr h => ?_)
  · obtain ⟨o, a, b, rfl, _⟩ := h
    rfl
  · obtain ⟨o, a, b, rfl, wa, wb, q⟩ := h
    obtain ⟨f, kd, hf⟩ := act_at (P := P) (base := base) T o
    have A0 : ∀ (x : Addr) (sp : Sp), (if x = f then some (spAct o) else none) = some sp → Held P w K mg base 2 x sp := fun x sp e => by
      by_cases z : x = f
      · rw [if_pos z] at e
        cases e
        rw [z]
        exact hf
      · rw [if_neg z] at e
        cases e
    refine ⟨_, (pss_cons (ps_set (i := 3) sc_binary.nd rfl (.inl rfl) (pe_ix ix_kdict (pe_gq (by rfl) T.q_BINARY_ACTIONS) (pv 0) (fun _ _ => rfl)))
      (pss_one (ps_ret (pe_call (ok_wrapped T) (hr.mono (by decide)) (by rfl) T.g_wrapped T.F_wrapped.kp T.b_wrapped .nil pass0 (pa_cons (pe_callA (i := 3) A0 hr rfl (.inl rfl) (pa_cons (pv 1) (pa_cons (pv 2) pa_nil))) pa_nil))))), ?_⟩
    exact ⟨_, rfl, _, _, _, rfl, rfl, kd, f, spAct o, rfl, if_pos rfl, _, rfl, _, rfl, a, b, rfl, wa, wb, _, rfl, q⟩
theorem ok_unary (T : Tx w K mg) : FnOk P w K mg base CX0 2 T.a_unary T.d_unary ["op", "a"] spUnary := by
  refine T.F_unary.ok sc_unary (fun vs H Q E h => ?_) (fun cdv A outer s H vs Q E hr h => ?_)
  · obtain ⟨o, a, rfl, _⟩ := h
    rfl
  · obtain ⟨o, a, rfl, wa, q⟩ := h
    obtain ⟨f, kd, hf⟩ := uact_at (P := P) (base := base) T o
    have A0 : ∀ (x : Addr) (sp : Sp), (if x = f then some (spU o) else none) = some sp → Held P w K mg base 1 x sp := fun x sp e => by
      by_cases z : x = f
      · rw [if_pos z] at e
        cases e
        rw [z]
        exact hf
      · rw [if_neg z] at e
        cases e
    refine ⟨_, (pss_cons (ps_set (i := 2) sc_unary.nd rfl (.inl rfl) (pe_ix ix_kdict (pe_gq (by rfl) T.q_UNARY_ACTIONS) (pv 0) (fun _ _ => rfl)))
      (pss_one (ps_ret (pe_call (ok_wrapped T) (hr.mono (by decide)) (by rfl) T.g_wrapped T.F_wrapped.kp T.b_wrapped .nil pass0 (pa_cons (pe_callA (i := 2) A0 hr rfl (.inl rfl) (pa_cons (pv 1) pa_nil)) pa_nil))))), ?_⟩
    exact ⟨_, rfl, _, _, _, rfl, rfl, kd, f, spU o, rfl, if_pos rfl, _, rfl, a, rfl, wa, _, rfl, q⟩

/-! ### tuples of texts and numbers, seen whole -/
def fV : PyData → V
  | .none => .non
  | .bool b => .bl b
  | .int i => .int i
  | .str s => .str s
  | _ => .non
def isF : PyData → Bool
  | .none | .bool _ | .int _ | .str _ => true
  | _ => false
theorem DpAll.flat {K : PySem.W.Frag} {H : Hp} : ∀ {vs : List V} {ds : List PyData}, DpAll K H vs ds → ds.all isF = true → vs = ds.map fV
  | _, _, .nil, _ => rfl
  | _, _, .cons h r, e => by
    have e' := Bool.and_eq_true_iff.mp (by rw [List.all_cons] at e; exact e)
    rw [List.map_cons, ← DpAll.flat r e'.2]
    congr 1
    cases h with
    | non => rfl
    | bl b => rfl
    | int i => rfl
    | str s => rfl
    | lst _ _ => cases e'.1
    | tup _ _ => cases e'.1
theorem Dp.tupInv' {K : PySem.W.Frag} {H : Hp} {v : V} {ds : List PyData} (h : Dp K H v (.tuple ds)) : ∃ a xs, v = .ref a ∧ SqT K H a xs ∧ DpAll K H xs ds := by
  cases h with
  | @tup a xs _ hs hd => exact ⟨a, xs, rfl, hs, hd⟩
theorem Dp.flat {K : PySem.W.Frag} {H : Hp} {v : V} {ds : List PyData} (h : Dp K H v (.tuple ds)) (e : ds.all isF = true) : ∃ a, v = .ref a ∧ SqT K H a (ds.map fV) := by
  obtain ⟨a, xs, rfl, hs, hd⟩ := Dp.tupInv' h
  exact ⟨a, rfl, DpAll.flat hd e ▸ hs⟩
theorem DpAll.ofFlat {K : PySem.W.Frag} {H : Hp} : ∀ {ds : List PyData}, ds.all isF = true → DpAll K H (ds.map fV) ds
  | [], _ => .nil
  | d :: ds, e => by
    have e' := Bool.and_eq_true_iff.mp (by rw [List.all_cons] at e; exact e)
    refine .cons ?_ (DpAll.ofFlat e'.2)
    cases d with
    | none => exact .non
    | bool b => exact .bl b
    | int i => exact .int i
    | str s => exact .str s
    | _ => cases e'.1
theorem Dp.ofFlat {K : PySem.W.Frag} {H : Hp} {a : Addr} {ds : List PyData} (h : SqT K H a (ds.map fV)) (e : ds.all isF = true) : Dp K H (.ref a) (.tuple ds) := .tup h (DpAll.ofFlat e)
theorem DpAll.intsI {K : PySem.W.Frag} {H : Hp} : ∀ xs : List Int, DpAll K H (xs.map V.int) (xs.map PyData.int)
  | [] => .nil
  | x :: r => .cons (.int x) (DpAll.intsI r)
theorem DpAll.intsE {K : PySem.W.Frag} {H : Hp} : ∀ {vs : List V} {xs : List Int}, DpAll K H vs (xs.map PyData.int) → vs = xs.map V.int
  | _, [], .nil => rfl
  | _, _ :: _, .cons h r => by
    cases h
    rw [List.map_cons, ← DpAll.intsE r]
theorem Dp.intsT {K : PySem.W.Frag} {H : Hp} {v : V} {xs : List Int} (h : Dp K H v (.tuple (xs.map PyData.int))) : ∃ a, v = .ref a ∧ SqT K H a (xs.map V.int) := by
  obtain ⟨a, vs, rfl, hs, hd⟩ := Dp.tupInv' h
  exact ⟨a, rfl, DpAll.intsE hd ▸ hs⟩
theorem Dp.ofInts {K : PySem.W.Frag} {H : Hp} {a : Addr} {xs : List Int} (h : SqT K H a (xs.map V.int)) : Dp K H (.ref a) (.tuple (xs.map PyData.int)) := .tup h (DpAll.intsI xs)
theorem atI_ints {xs : List Int} {i : Nat} (h : i < xs.length) : atI (xs.map V.int) (i : Int) = some (.int (xs.getD i 0)) := by
  refine atI_nat ?_
  rw [List.getElem?_map, List.getD_eq_getElem?_getD, List.getElem?_eq_getElem h]; rfl
theorem iteN {c : Bool} {A B : Prop} (h : c = false) (b : B) : if c = true then A else B := by rw [h]; exact b
theorem iteY {c : Bool} {A B : Prop} (h : c = true) (a : A) : if c = true then A else B := by rw [h]; exact a
theorem sqT_laid {K : PySem.W.Frag} {H : Hp} {r : Addr} {xs : List V} : SqT K (L2.upd H r (.tup xs)) r xs := SqT.of upd_same
/-- t + u, by what it holds -/
theorem catA_sq {K : PySem.W.Frag} {H : Hp} {a b : Addr} {xs ys : List V} {Q : VK} (ha : SqT K H a xs) (hb : SqT K H b ys) (hz : xs.length + ys.length ≤ sizeLine)
    (q : ∀ r H', Same H H' → SqT K H' r (xs ++ ys) → Q (.ref r) H') : rCatA K (.ref a) (.ref b) H Q := by
  refine ⟨a, b, xs, ys, rfl, rfl, ha, hb, hz, fun e => ?_, fun _ e => ?_, fun _ _ p np => ?_⟩
  · subst e; exact q _ _ (.refl _) hb
  · subst e; exact q _ _ (.refl _) (by rw [List.append_nil]; exact ha)
  · exact q _ _ (same_new5 np) sqT_laid
/-- t[lo:hi], by what it holds -/
theorem slA_sq {K : PySem.W.Frag} {H : Hp} {a : Addr} {xs : List V} {lo hi : Option Int} {Q : VK} (ha : SqT K H a xs) (q : ∀ r H', Same H H' → SqT K H' r (cutV xs lo hi) → Q (.ref r) H') : rSlA K (.ref a) lo hi H Q := by
  refine ⟨a, xs, rfl, ha, fun e => ?_, fun _ p np => q _ _ (same_new5 np) sqT_laid⟩
  have z : cutV xs lo hi = xs := by
    unfold cutV
    rw [e.1, e.2]
    simp
  exact q _ _ (.refl _) (by rw [z]; exact ha)
theorem cut_to (xs : List V) (n : Nat) (h : n ≤ xs.length) : cutV xs none (some (n : Int)) = xs.take n := by
  unfold cutV
  rw [HT.sIx_nat, HT.sIx_none]
  simp [Nat.min_eq_left h]
theorem cut_from (xs : List V) (n : Nat) (h : n ≤ xs.length) : cutV xs (some (n : Int)) none = xs.drop n := by
  unfold cutV
  rw [HT.sIx_nat, HT.sIx_none, Nat.min_eq_left h]
  rw [List.take_of_length_le (by rw [List.length_drop]; omega)]
theorem set_cut {α : Type} {xs : List α} {i : Nat} {x : α} (h : i < xs.length) : xs.take i ++ [x] ++ xs.drop (i + 1) = xs.set i x := by
  rw [List.set_eq_take_append_cons_drop, if_pos h, List.append_assoc]; rfl
/-! ### machine code -/
inductive Sp4 where | tid | bid | dim | grid
def Sp4.s : Sp4 → Str
  | .tid => "tid" | .bid => "bid" | .dim => "dim" | .grid => "grid"
inductive CI where
  | word (d : Nat) (n : Int) | param (d k : Nat) | special (d : Nat) (x : Sp4) | copy (d r : Nat) | unary (u : Uop) (d r : Nat) | binary (o : Op) (d r t : Nat)
  | load (d : Nat) (a : Int) (r : Nat) | store (a : Int) (r t : Nat) | atomic (f : Str) (a : Int) (r t : Nat) | barrier (n : Int) | collect (f : Str) (d r : Nat) (n : Int)
  | get (d n : Nat) | keep (n r : Nat) | jump (k : Int) | branch (r : Nat) (k j : Int) | exit
def CI.ds : CI → List PyData
  | .word d n => [.str "word", .int d, .int n] | .param d k => [.str "param", .int d, .int k] | .special d x => [.str "special", .int d, .str x.s] | .copy d r => [.str "copy", .int d, .int r]
  | .unary u d r => [.str "unary", .str u.s, .int d, .int r] | .binary o d r t => [.str "binary", .str o.s, .int d, .int r, .int t]
  | .load d a r => [.str "load", .int d, .int a, .int r] | .store a r t => [.str "store", .int a, .int r, .int t] | .atomic f a r t => [.str "atomic", .str f, .int a, .int r, .int t]
  | .barrier n => [.str "barrier", .int n] | .collect f d r n => [.str "collect", .str f, .int d, .int r, .int n]
  | .get d n => [.str "get", .int d, .int n] | .keep n r => [.str "keep", .int n, .int r] | .jump k => [.str "jump", .int k] | .branch r k j => [.str "branch", .int r, .int k, .int j] | .exit => [.str "exit"]
def CI.d (c : CI) : PyData := .tuple c.ds
theorem CI.flat (c : CI) : c.ds.all isF = true := by cases c <;> rfl
/-- registers, local cells, params are there -/
def CI.ok (np loc : Nat) : CI → Prop
  | .word d n => d < 8 ∧ W n | .param d k => d < 8 ∧ k < np | .special d _ => d < 8 | .copy d r => d < 8 ∧ r < 8
  | .unary _ d r => d < 8 ∧ r < 8 | .binary _ d r t => d < 8 ∧ r < 8 ∧ t < 8
  | .load d _ r => d < 8 ∧ r < 8 | .store _ r t => r < 8 ∧ t < 8 | .atomic _ _ r t => r < 8 ∧ t < 8
  | .barrier _ => True | .collect _ d r _ => d < 8 ∧ r < 8
  | .get d n => d < 8 ∧ n < loc | .keep n r => n < loc ∧ r < 8 | .jump _ => True | .branch r _ _ => r < 8 | .exit => True
def CI.wr : CI → Option Nat
  | .word d _ | .param d _ | .special d _ | .copy d _ | .unary _ d _ | .binary _ d _ _ | .load d _ _ | .collect _ d _ _ => some d
  | _ => none
def CI.req (ws : List Int) : CI → List PyData
  | .load _ a r => [.str "load", .int a, .int (ws.getD r 0)]
  | .store a r t => [.str "store", .int a, .int (ws.getD r 0), .int (ws.getD t 0)]
  | .atomic f a r t => [.str "atomic", .str f, .int a, .int (ws.getD r 0), .int (ws.getD t 0)]
  | .collect f _ r n => [.str "collect", .str f, .int (ws.getD r 0), .int n]
  | .barrier n => [.str "barrier", .int n]
  | .exit => [.str "exit"]
  | _ => [.str "none"]
theorem CI.reqFlat (c : CI) (ws : List Int) : (c.req ws).all isF = true := by cases c <;> rfl
/-- a launch, as far as lanes see it -/
structure LN where
  grid : Int
  dim : Int
  args : List Int
  rest : PyData
def LN.d (l : LN) : PyData := .tuple [.int l.grid, .int l.dim, .tuple (l.args.map PyData.int), l.rest]
def LN.ok (l : LN) (np : Nat) : Prop := 1 ≤ l.grid ∧ l.grid ≤ 4 ∧ 1 ≤ l.dim ∧ l.dim ≤ 8 ∧ l.args.length = np ∧ ∀ x ∈ l.args, W x
def LN.sp (l : LN) (t : Int) : Sp4 → Int
  | .tid => t % l.dim | .bid => t / l.dim | .dim => l.dim | .grid => l.grid
def CI.made (l : LN) (t : Int) (ws : List Int) (word : Int) : CI → Int
  | .word _ n => n
  | .param _ k => l.args.getD k 0
  | .special _ x => l.sp t x
  | .copy _ r => ws.getD r 0
  | .unary u _ r => wrap (uact u (ws.getD r 0))
  | .binary o _ r s => wrap (act o (ws.getD r 0) (ws.getD s 0))
  | _ => word
def CI.nx (at_ : Int) (ws : List Int) : CI → Int
  | .jump k => k
  | .branch r k _ => if ws.getD r 0 = 0 then at_ + 1 else k
  | _ => at_ + 1
def CI.regs (l : LN) (t : Int) (ws cs : List Int) (word : Int) (c : CI) : List Int := match c with
  | .get d n => ws.set d (cs.getD n 0)
  | c => match c.wr with
    | some d => ws.set d (c.made l t ws word)
    | none => ws
def CI.locs (ws cs : List Int) : CI → List Int
  | .keep n r => cs.set n (ws.getD r 0)
  | _ => cs
def laneD (at_ : Int) (ws cs : List Int) : PyData := .tuple [.int at_, .tuple (ws.map PyData.int), .tuple (cs.map PyData.int)]
/-- the state behind a state -/
def CI.bh (l : LN) (t : Int) (at_ : Int) (ws cs : List Int) (word : Int) (c : CI) : PyData := match c with
  | .exit => laneD at_ ws cs
  | c => laneD (c.nx at_ (c.regs l t ws cs word)) (c.regs l t ws cs word) (c.locs ws cs)
/-! ### special, written -/
def sp_special (K : PySem.W.Frag) : Sp := fun vs H Q _ => ∃ (lv : V) (t : Int) (x : Sp4) (l : LN) (np : Nat), vs = [lv, .int t, .str x.s] ∧ Dp K H lv l.d ∧ l.ok np ∧ 0 ≤ t ∧ t < 100 ∧ Q (.int (l.sp t x)) H
theorem ok_special (T : Tx w K mg) : FnOk P w K mg base CX0 1 T.a_special T.d_special ["launch", "thread", "word"] (sp_special K) := by
  refine T.F_special.ok sc_special (fun vs H Q E h => ?_) (fun cdv A outer s H vs Q E hr h => ?_)
  · obtain ⟨lv, t, x, l, np, rfl, _⟩ := h
    rfl
  · obtain ⟨lv, t, x, l, np, rfl, dl, ⟨g1, g2, d1, d2, _⟩, t0, t1, k⟩ := h
    refine ⟨_, (pss_cons (ps_asg (pv 0) (pg_tup rfl (pgs_cons (pg_name (i := 3) sc_special.nd rfl (.inl rfl)) (pgs_cons (pg_name (i := 4) sc_special.nd rfl (.inl rfl)) (pgs_cons (pg_name (i := 5) sc_special.nd rfl (.inl rfl)) (pgs_cons (pg_name (i := 5) sc_special.nd rfl (.inl rfl)) pgs_nil))))))
      (pss_cons (ps_if (pt_cmpR op_eq (pv 2) pe_str (nomark _)) (pss_one (ps_ret (pe_op op_mod (pv 1) (pv 4)))) pss_nil)
      (pss_cons (ps_if (pt_cmpR op_eq (pv 2) pe_str (nomark _)) (pss_one (ps_ret (pe_op op_fdivW (pv 1) (pv 4)))) pss_nil)
      (pss_one (ps_ret (pe_ifExp (pt_cmpR op_eq (pv 2) pe_str (nomark _)) (pv 4) (pv 3))))))), ?_⟩
    obtain ⟨a, xs, rfl, hs, hd⟩ := Dp.tupInv' dl
    cases hd with
    | @cons v1 _ _ _ h1 hd =>
    cases hd with
    | @cons v2 _ _ _ h2 hd =>
    cases hd with
    | @cons v3 _ _ _ h3 hd =>
    cases hd with
    | @cons v4 _ _ _ h4 hd =>
    cases hd
    cases h1
    cases h2
    have wd : CDivW t l.dim := wide_div (b := 100) (by omega) (by omega) (by omega) (by omega)
    refine ⟨_, rfl, a, _, rfl, hs, rfl, ?_⟩
    refine ⟨_, _, rfl, _, _, rfl, _, _, rfl, _, _, rfl, rfl, ?_⟩
    cases x with
    | tid =>
      walk_at "test"
      exact ⟨_, rfl, _, rfl, _, _, rfl, rfl, (by omega), k⟩
    | bid =>
      walk_at "test"
      walk_at "test"
      exact ⟨_, rfl, _, rfl, _, _, rfl, rfl, wd, k⟩
    | dim =>
      walk_at "test"
      walk_at "test"
      walk_at "test"
      exact ⟨_, rfl, k⟩
    | grid =>
      walk_at "test"
      walk_at "test"
      walk_at "test"
      exact ⟨_, rfl, k⟩
def sp_written (K : PySem.W.Frag) : Sp := fun vs H Q _ => ∃ (iv : V) (c : CI), vs = [iv] ∧ Dp K H iv c.d ∧ Q (.int (match c.wr with | some d => (d : Int) | none => -1)) H
def wrAt : CI → Option Int
  | .word _ _ | .param _ _ | .special _ _ | .copy _ _ | .load _ _ _ => some 1
  | .unary _ _ _ | .binary _ _ _ _ | .collect _ _ _ _ => some 2
  | _ => none
theorem ok_written (T : Tx w K mg) : FnOk P w K mg base CX0 1 T.a_written T.d_written ["instruction"] (sp_written K) := by
  refine T.F_written.ok sc_written (fun vs H Q E h => ?_) (fun cdv A outer s H vs Q E hr h => ?_)
  · obtain ⟨iv, c, rfl, _⟩ := h
    rfl
  · obtain ⟨iv, c, rfl, dc, k⟩ := h
    refine ⟨_, (pss_cons (ps_set (i := 1) sc_written.nd rfl (.inl rfl) (pe_kget1 (pe_gq (by rfl) T.q_WRITTEN_AT) (pe_ix ix_tup (pv 0) pe_int (fun _ _ => rfl)) ⟨rfl, rfl, by decide, rfl⟩))
      (pss_one (ps_ret (pe_ifExp (pt_cmpR op_isN (pv 1) pe_non (nomark _)) (pe_gq (by rfl) T.q_NO_REGISTER) (pe_ix ix_tup (pv 0) (pv 1) (fun _ _ => rfl)))))), ?_⟩
    obtain ⟨a, rfl, sq⟩ := Dp.flat dc c.flat
    refine ⟨_, _, rfl, T.w_WRITTEN_AT, ?_⟩
    cases c
    all_goals
      refine ⟨_, rfl, _, _, _, _, rfl, rfl, sq, rfl, _, rfl, ?_⟩
      first
        | exact ⟨_, rfl, rfl, _, rfl, iteN (by decide +kernel) ⟨_, rfl, _, rfl, _, _, _, _, rfl, rfl, sq, rfl, k⟩⟩
        | exact ⟨_, rfl, rfl, _, rfl, iteY (by decide +kernel) k⟩
/-! ### asked_by, made_by -/
def sp_asked_by (K : PySem.W.Frag) : Sp := fun vs H Q _ => ∃ (iv rv : V) (c : CI) (ws : List Int) (np loc : Nat), vs = [iv, rv] ∧ Dp K H iv c.d ∧ Dp K H rv (.tuple (ws.map PyData.int)) ∧ ws.length = 8 ∧ c.ok np loc ∧
  ∀ r H', Same H H' → Dp K H' r (.tuple (c.req ws)) → Q r H'
theorem ok_asked_by (T : Tx w K mg) : FnOk P w K mg base CX0 1 T.a_asked_by T.d_asked_by ["instruction", "registers"] (sp_asked_by K) := by
  refine T.F_asked_by.ok sc_asked_by (fun vs H Q E h => ?_) (fun cdv A outer s H vs Q E hr h => ?_)
  · obtain ⟨iv, rv, c, ws, np, loc, rfl, _⟩ := h
    rfl
  · obtain ⟨iv, rv, c, ws, np, loc, rfl, dc, dr, l8, ok, k⟩ := h
    refine ⟨_, (pss_cons (ps_set (i := 2) sc_asked_by.nd rfl (.inl rfl) (pe_ix ix_tup (pv 0) pe_int (fun _ _ => rfl)))
      (pss_cons (ps_if (pt_cmpR op_eq (pv 2) pe_str (nomark _)) (pss_one (ps_ret (pe_tup (pa_cons (pv 2) (pa_cons (pe_ix ix_tup (pv 0) pe_int (fun _ _ => rfl)) (pa_cons (pe_ix ix_tup (pv 1) (pe_ix ix_tup (pv 0) pe_int (fun _ _ => rfl)) (fun _ _ => rfl)) pa_nil)))))) pss_nil)
      (pss_cons (ps_if (pt_cmpR op_eq (pv 2) pe_str (nomark _)) (pss_cons (ps_asg (pv 0) (pg_tup rfl (pgs_cons (pg_name (i := 3) sc_asked_by.nd rfl (.inl rfl)) (pgs_cons (pg_name (i := 4) sc_asked_by.nd rfl (.inl rfl)) (pgs_cons (pg_name (i := 5) sc_asked_by.nd rfl (.inl rfl)) (pgs_cons (pg_name (i := 6) sc_asked_by.nd rfl (.inl rfl)) pgs_nil))))))
      (pss_one (ps_ret (pe_tup (pa_cons (pv 2) (pa_cons (pv 4) (pa_cons (pe_ix ix_tup (pv 1) (pv 5) (fun _ _ => rfl)) (pa_cons (pe_ix ix_tup (pv 1) (pv 6) (fun _ _ => rfl)) pa_nil)))))))) pss_nil)
      (pss_cons (ps_if (pt_cmpR op_eq (pv 2) pe_str (nomark _)) (pss_cons (ps_asg (pv 0) (pg_tup rfl (pgs_cons (pg_name (i := 3) sc_asked_by.nd rfl (.inl rfl)) (pgs_cons (pg_name (i := 7) sc_asked_by.nd rfl (.inl rfl)) (pgs_cons (pg_name (i := 4) sc_asked_by.nd rfl (.inl rfl)) (pgs_cons (pg_name (i := 5) sc_asked_by.nd rfl (.inl rfl)) (pgs_cons (pg_name (i := 6) sc_asked_by.nd rfl (.inl rfl)) pgs_nil)))))))
      (pss_one (ps_ret (pe_tup (pa_cons (pv 2) (pa_cons (pv 7) (pa_cons (pv 4) (pa_cons (pe_ix ix_tup (pv 1) (pv 5) (fun _ _ => rfl)) (pa_cons (pe_ix ix_tup (pv 1) (pv 6) (fun _ _ => rfl)) pa_nil))))))))) pss_nil)
      (pss_cons (ps_if (pt_cmpR op_eq (pv 2) pe_str (nomark _)) (pss_one (ps_ret (pe_tup (pa_cons (pv 2) (pa_cons (pe_ix ix_tup (pv 0) pe_int (fun _ _ => rfl)) (pa_cons (pe_ix ix_tup (pv 1) (pe_ix ix_tup (pv 0) pe_int (fun _ _ => rfl)) (fun _ _ => rfl)) (pa_cons (pe_ix ix_tup (pv 0) pe_int (fun _ _ => rfl)) pa_nil))))))) pss_nil)
      (pss_one (ps_ret (pe_ifExp (pt_cmpR op_in_seq (pv 2) (pe_tup (pa_cons pe_str (pa_cons pe_str pa_nil))) (by rfl)) (pv 0) (pe_gq (by rfl) T.q_NO_REQUEST))))))))), ?_⟩
    obtain ⟨a, rfl, sq⟩ := Dp.flat dc c.flat
    obtain ⟨b, rfl, sr⟩ := Dp.intsT dr
    have no : Dp K H (.ref T.a_NO_REQUEST) (.tuple [.str "none"]) := by
      obtain ⟨o, its, n, h1, h2, h3, h4, h5⟩ := T.t_NO_REQUEST
      exact .tup (.inr ⟨o, its, n, h1, h2, h3, h4, h5⟩) (.cons (.str _) .nil)
    have ix : ∀ {i : Nat}, i < 8 → atI (ws.map V.int) (i : Int) = some (.int (ws.getD i 0)) := fun h => atI_ints (by omega)
    have fin : ∀ (xs : List PyData), xs = c.req ws → ∀ t, H t = none → Q (.ref t) (L2.upd H t (.tup (xs.map fV))) := fun xs e t nt => by
      subst e
      exact k _ _ (same_new5 nt) (Dp.ofFlat sqT_laid (c.reqFlat ws))
    have plain : c.req ws = [.str "none"] → ∀ H', Same H H' → Q (.ref T.a_NO_REQUEST) H' := fun e H' s => k _ _ s (by rw [e]; exact no.same s)
    have self : c.req ws = c.ds → ∀ H', Same H H' → Q (.ref a) H' := fun e H' s => k _ _ s (by rw [e]; exact dc.same s)
    cases c
    all_goals
      refine ⟨_, rfl, _, _, _, _, rfl, rfl, sq, rfl, ?_⟩
      repeat walk_at "test"
    case load d x r =>
      refine ⟨_, rfl, _, rfl, _, _, _, _, rfl, rfl, sq, rfl, _, rfl, _, rfl, _, _, _, _, rfl, rfl, sq, rfl, _, _, _, _, rfl, rfl, sr, ix ok.2, by walk_at "size", fun t nt => fin _ rfl t nt⟩
    case store x r u =>
      refine ⟨_, rfl, _, _, rfl, sq, rfl, _, _, rfl, _, _, rfl, _, _, rfl, _, _, rfl, rfl, ?_⟩
      refine ⟨_, rfl, _, rfl, _, rfl, _, rfl, _, _, _, _, rfl, rfl, sr, ix ok.1, _, rfl, _, rfl, _, _, _, _, rfl, rfl, sr, ix ok.2, by walk_at "size", fun t nt => fin _ rfl t nt⟩
    case atomic f x r u =>
      refine ⟨_, rfl, _, _, rfl, sq, rfl, _, _, rfl, _, _, rfl, _, _, rfl, _, _, rfl, _, _, rfl, rfl, ?_⟩
      refine ⟨_, rfl, _, rfl, _, rfl, _, rfl, _, rfl, _, _, _, _, rfl, rfl, sr, ix ok.1, _, rfl, _, rfl, _, _, _, _, rfl, rfl, sr, ix ok.2, by walk_at "size", fun t nt => fin _ rfl t nt⟩
    case collect f d r n =>
      refine ⟨_, rfl, _, rfl, _, _, _, _, rfl, rfl, sq, rfl, _, rfl, _, rfl, _, _, _, _, rfl, rfl, sq, rfl, _, _, _, _, rfl, rfl, sr, ix ok.2, _, rfl, _, _, _, _, rfl, rfl, sq, rfl, by walk_at "size", fun t nt => fin _ rfl t nt⟩
    all_goals
      refine ⟨_, rfl, by walk_at "size", fun t nt => ⟨t, _, rfl, .inr sqT_laid, rfl, rfl, _, rfl, ?_⟩⟩
      first
        | exact iteN (by decide +kernel) (plain rfl _ (same_new5 nt))
        | exact iteY (by decide +kernel) ⟨_, rfl, self rfl _ (same_new5 nt)⟩
def sp_made_by (K : PySem.W.Frag) : Sp := fun vs H Q _ => ∃ (iv rv lv : V) (t : Int) (word : Int) (c : CI) (ws : List Int) (np loc : Nat) (l : LN), vs = [iv, rv, lv, .int t, .int word] ∧ Dp K H iv c.d ∧ Dp K H rv (.tuple (ws.map PyData.int)) ∧ ws.length = 8 ∧ (∀ x ∈ ws, W x) ∧ c.ok np loc ∧
  Dp K H lv l.d ∧ l.ok np ∧ 0 ≤ t ∧ t < 100 ∧ (∀ d n, c ≠ .get d n) ∧ ∀ H', Same H H' → Q (.int (c.made l t ws word)) H'
theorem ok_made_by (T : Tx w K mg) : FnOk P w K mg base CX0 4 T.a_made_by T.d_made_by ["instruction", "registers", "launch", "thread", "word"] (sp_made_by K) := by
  refine T.F_made_by.ok sc_made_by (fun vs H Q E h => ?_) (fun cdv A outer s H vs Q E hr h => ?_)
  · obtain ⟨iv, rv, lv, t, word, c, ws, np, loc, l, rfl, _⟩ := h
    rfl
  · obtain ⟨iv, rv, lv, th, word, c, ws, np, loc, l, rfl, dc, dr, l8, ww, ok, dl, lok, t0, t1, ng, k⟩ := h
    refine ⟨_, (pss_cons (ps_set (i := 5) sc_made_by.nd rfl (.inl rfl) (pe_ix ix_tup (pv 0) pe_int (fun _ _ => rfl)))
      (pss_cons (ps_if (pt_cmpR op_eq (pv 5) pe_str (nomark _)) (pss_one (ps_ret (pe_ix ix_tup (pv 0) pe_int (fun _ _ => rfl)))) pss_nil)
      (pss_cons (ps_if (pt_cmpR op_eq (pv 5) pe_str (nomark _)) (pss_one (ps_ret (pe_ix ix_tup (pe_ix ix_tup (pv 2) pe_int (fun _ _ => rfl)) (pe_ix ix_tup (pv 0) pe_int (fun _ _ => rfl)) (fun _ _ => rfl)))) pss_nil)
      (pss_cons (ps_if (pt_cmpR op_eq (pv 5) pe_str (nomark _)) (pss_one (ps_ret (pe_call (ok_special T) (hr.mono (by decide)) (by rfl) T.g_special T.F_special.kp T.b_special .nil pass0 (pa_cons (pv 2) (pa_cons (pv 3) (pa_cons (pe_ix ix_tup (pv 0) pe_int (fun _ _ => rfl)) pa_nil)))))) pss_nil)
      (pss_cons (ps_if (pt_cmpR op_eq (pv 5) pe_str (nomark _)) (pss_one (ps_ret (pe_ix ix_tup (pv 1) (pe_ix ix_tup (pv 0) pe_int (fun _ _ => rfl)) (fun _ _ => rfl)))) pss_nil)
      (pss_cons (ps_if (pt_cmpR op_eq (pv 5) pe_str (nomark _)) (pss_one (ps_ret (pe_call (ok_unary T) (hr.mono (by decide)) (by rfl) T.g_unary T.F_unary.kp T.b_unary .nil pass0 (pa_cons (pe_ix ix_tup (pv 0) pe_int (fun _ _ => rfl)) (pa_cons (pe_ix ix_tup (pv 1) (pe_ix ix_tup (pv 0) pe_int (fun _ _ => rfl)) (fun _ _ => rfl)) pa_nil))))) pss_nil)
      (pss_cons (ps_if (pt_cmpR op_eq (pv 5) pe_str (nomark _)) (pss_cons (ps_asg (pv 0) (pg_tup rfl (pgs_cons (pg_name (i := 6) sc_made_by.nd rfl (.inl rfl)) (pgs_cons (pg_name (i := 7) sc_made_by.nd rfl (.inl rfl)) (pgs_cons (pg_name (i := 6) sc_made_by.nd rfl (.inl rfl)) (pgs_cons (pg_name (i := 8) sc_made_by.nd rfl (.inl rfl)) (pgs_cons (pg_name (i := 9) sc_made_by.nd rfl (.inl rfl)) pgs_nil)))))))
      (pss_one (ps_ret (pe_call (ok_binary T) (hr.mono (by decide)) (by rfl) T.g_binary T.F_binary.kp T.b_binary .nil pass0 (pa_cons (pv 7) (pa_cons (pe_ix ix_tup (pv 1) (pv 8) (fun _ _ => rfl)) (pa_cons (pe_ix ix_tup (pv 1) (pv 9) (fun _ _ => rfl)) pa_nil))))))) pss_nil)
      (pss_one (ps_ret (pv 4)))))))))), ?_⟩
    obtain ⟨a, rfl, sq⟩ := Dp.flat dc c.flat
    obtain ⟨b, rfl, sr⟩ := Dp.intsT dr
    have ix : ∀ {i : Nat}, i < 8 → atI (ws.map V.int) (i : Int) = some (.int (ws.getD i 0)) := fun h => atI_ints (by omega)
    have wx : ∀ {i : Nat}, i < 8 → W (ws.getD i 0) := fun {i} h => ww _ (by rw [List.getD_eq_getElem?_getD, List.getElem?_eq_getElem (by omega)]; exact List.getElem_mem (by omega))
    have q := k H (.refl H)
    cases c
    all_goals
      refine ⟨_, rfl, _, _, _, _, rfl, rfl, sq, rfl, ?_⟩
      repeat walk_at "test"
    case word d n => exact ⟨_, rfl, _, _, _, _, rfl, rfl, sq, rfl, q⟩
    case param d n =>
      obtain ⟨la, lx, rfl, hs, hd⟩ := Dp.tupInv' dl
      cases hd with
      | @cons v1 _ _ _ h1 hd =>
      cases hd with
      | @cons v2 _ _ _ h2 hd =>
      cases hd with
      | @cons v3 _ _ _ h3 hd =>
      cases hd with
      | @cons v4 _ _ _ h4 hd =>
      cases hd
      obtain ⟨ab, rfl, sa⟩ := Dp.intsT h3
      have la := lok.2.2.2.2.1
      exact ⟨_, rfl, _, _, _, _, rfl, rfl, hs, rfl, _, rfl, _, _, _, _, rfl, rfl, sq, rfl, _, _, _, _, rfl, rfl, sa, atI_ints (by have := ok.2; omega), q⟩
    case special d x => exact ⟨_, rfl, _, rfl, _, rfl, _, _, _, _, rfl, rfl, sq, rfl, _, th, x, l, np, rfl, dl, lok, t0, t1, q⟩
    case copy d r => exact ⟨_, rfl, _, rfl, _, _, _, _, rfl, rfl, sq, rfl, _, _, _, _, rfl, rfl, sr, ix ok.2, q⟩
    case unary u d r => exact ⟨_, rfl, _, _, _, _, rfl, rfl, sq, rfl, _, rfl, _, rfl, _, _, _, _, rfl, rfl, sq, rfl, _, _, _, _, rfl, rfl, sr, ix ok.2, u, _, rfl, wx ok.2, q⟩
    case binary o d r t =>
      refine ⟨_, rfl, _, _, rfl, sq, rfl, ?_⟩
      refine ⟨_, _, rfl, _, _, rfl, _, _, rfl, _, _, rfl, _, _, rfl, rfl, ?_⟩
      exact ⟨_, rfl, _, rfl, _, rfl, _, _, _, _, rfl, rfl, sr, ix ok.2.1, _, rfl, _, rfl, _, _, _, _, rfl, rfl, sr, ix ok.2.2, o, _, _, rfl, wx ok.2.1, wx ok.2.2, q⟩
    case get d n => exact absurd rfl (ng d n)
    all_goals exact ⟨_, rfl, q⟩
/-! ### lanes -/
def rRepA (K : PySem.W.Frag) : R2 := fun x y H Q => ∃ l k xs, x = .ref l ∧ y = .int k ∧ SqT K H l xs ∧ xs ≠ [] ∧ 0 ≤ k ∧ k ≤ 1000 ∧ xs.length ≤ 1000 ∧ ∀ r H', Same H H' → SqT K H' r (List.replicate k.toNat xs).flatten → Q (.ref r) H'
theorem op_repA {X : Cx} : OpR X (binaryOp .Mult) (rRepA X.K) := by
  intro pins s σ H x y v u Q I rx ry h
  obtain ⟨l, k, xs, rfl, rfl, hs, hne, k0, k1, hl, q⟩ := h
  by_cases z : k < 2
  · refine op_rep01 pins s σ H _ _ v u Q I rx ry ⟨l, k, xs, rfl, rfl, hs, hne, ?_⟩
    by_cases z0 : k = 0
    · subst z0
      exact .inr ⟨rfl, fun p np => q _ _ (same_new5 np) sqT_laid⟩
    · obtain rfl : k = 1 := by omega
      exact .inl ⟨rfl, q _ _ (.refl H) (by show SqT X.K H l (List.replicate 1 xs).flatten; simp [hs])⟩
  · exact op_repT pins s σ H _ _ v u Q I rx ry ⟨l, k, xs, rfl, rfl, hs, hne, by omega, k1, hl, fun p np => q _ _ (same_new5 np) sqT_laid⟩
theorem rep_int (n : Nat) (x : V) : (List.replicate n [x]).flatten = List.replicate n x := by
  induction n with
  | zero => rfl
  | succ n ih => rw [List.replicate_succ, List.flatten_cons, ih, List.replicate_succ]; rfl
theorem rep_map (n : Nat) (x : Int) : List.replicate n (V.int x) = (List.replicate n x).map V.int := by rw [List.map_replicate]
def codeD (ps ss : PyData) (loc : Nat) (cs : List CI) : PyData := .tuple [ps, ss, .int loc, .tuple (cs.map CI.d)]
theorem Dp.quad {K : PySem.W.Frag} {H : Hp} {v : V} {d1 d2 d3 d4 : PyData} (h : Dp K H v (.tuple [d1, d2, d3, d4])) : ∃ a v1 v2 v3 v4, v = .ref a ∧ SqT K H a [v1, v2, v3, v4] ∧ Dp K H v1 d1 ∧ Dp K H v2 d2 ∧ Dp K H v3 d3 ∧ Dp K H v4 d4 := by
  obtain ⟨a, xs, rfl, hs, hd⟩ := Dp.tupInv' h
  cases hd with
  | @cons v1 _ _ _ h1 hd =>
  cases hd with
  | @cons v2 _ _ _ h2 hd =>
  cases hd with
  | @cons v3 _ _ _ h3 hd =>
  cases hd with
  | @cons v4 _ _ _ h4 hd =>
  cases hd
  exact ⟨a, v1, v2, v3, v4, rfl, hs, h1, h2, h3, h4⟩
theorem Dp.tri {K : PySem.W.Frag} {H : Hp} {v : V} {d1 d2 d3 : PyData} (h : Dp K H v (.tuple [d1, d2, d3])) : ∃ a v1 v2 v3, v = .ref a ∧ SqT K H a [v1, v2, v3] ∧ Dp K H v1 d1 ∧ Dp K H v2 d2 ∧ Dp K H v3 d3 := by
  obtain ⟨a, xs, rfl, hs, hd⟩ := Dp.tupInv' h
  cases hd with
  | @cons v1 _ _ _ h1 hd =>
  cases hd with
  | @cons v2 _ _ _ h2 hd =>
  cases hd with
  | @cons v3 _ _ _ h3 hd =>
  cases hd
  exact ⟨a, v1, v2, v3, rfl, hs, h1, h2, h3⟩
theorem Dp.intInv' {K : PySem.W.Frag} {H : Hp} {v : V} {x : Int} (h : Dp K H v (.int x)) : v = .int x := by cases h; rfl
theorem Dp.strInv' {K : PySem.W.Frag} {H : Hp} {v : V} {x : Str} (h : Dp K H v (.str x)) : v = .str x := by cases h; rfl
/-- an item of a tuple of data -/
theorem Dp.item' {K : PySem.W.Frag} {H : Hp} {v : V} {ds : List PyData} {d : PyData} {i : Nat} (h : Dp K H v (.tuple ds)) (e : ds[i]? = some d) : ∃ a xs u, v = .ref a ∧ SqT K H a xs ∧ atI xs (i : Int) = some u ∧ Dp K H u d := by
  obtain ⟨a, xs, rfl, hs, hd⟩ := Dp.tupInv' h
  obtain ⟨u, e1, du⟩ := DpAll.at hd e
  exact ⟨a, xs, u, rfl, hs, atI_nat e1, du⟩
theorem Dp.lay3 {K : PySem.W.Frag} {H : Hp} {r : Addr} {v1 v2 v3 : V} {d1 d2 d3 : PyData} (nr : H r = none) (h1 : Dp K H v1 d1) (h2 : Dp K H v2 d2) (h3 : Dp K H v3 d3) : Dp K (L2.upd H r (.tup [v1, v2, v3])) (.ref r) (.tuple [d1, d2, d3]) :=
  .tup sqT_laid (.cons (h1.same (same_new5 nr)) (.cons (h2.same (same_new5 nr)) (.cons (h3.same (same_new5 nr)) .nil)))
def sp_first_lane (K : PySem.W.Frag) : Sp := fun vs H Q _ => ∃ (cv : V) (ps ss : PyData) (loc : Nat) (cs : List CI), vs = [cv] ∧ Dp K H cv (codeD ps ss loc cs) ∧ loc ≤ 100 ∧ ∀ r H', Same H H' → Dp K H' r (laneD 0 (List.replicate 8 0) (List.replicate loc 0)) → Q r H'
theorem ok_first_lane (T : Tx w K mg) : FnOk P w K mg base CX0 1 T.a_first_lane T.d_first_lane ["code"] (sp_first_lane K) := by
  refine T.F_first_lane.ok sc_first_lane (fun vs H Q E h => ?_) (fun cdv A outer s H vs Q E hr h => ?_)
  · obtain ⟨cv, ps, ss, loc, cs, rfl, _⟩ := h
    rfl
  · obtain ⟨cv, ps, ss, loc, cs, rfl, dc, l100, k⟩ := h
    refine ⟨_, (pss_one (ps_ret (pe_tup (pa_cons pe_int (pa_cons (pe_op op_repT (pe_tup (pa_cons pe_int pa_nil)) (pe_gq (by rfl) T.q_MANY_REGISTERS)) (pa_cons (pe_op op_repA (pe_tup (pa_cons pe_int pa_nil)) (pe_ix ix_tup (pv 0) pe_int (fun _ _ => rfl))) pa_nil)))))), ?_⟩
    refine ⟨by walk_at "size", fun t1 n1 => ?_⟩
    have s1 := same_new5 (o := .tup [.int 0]) n1
    have h1 : SqT K (L2.upd H t1 (.tup [.int 0])) t1 [.int 0] := sqT_laid
    generalize L2.upd H t1 (.tup [.int 0]) = H1 at s1 h1 ⊢
    refine ⟨t1, 8, _, rfl, rfl, h1, (fun e => by cases e), by decide, by decide, by decide, fun t2 n2 => ?_⟩
    have s2 := same_new5 (o := .tup (List.replicate (8 : Int).toNat [V.int 0]).flatten) n2
    have h2 : SqT K (L2.upd H1 t2 (.tup (List.replicate (8 : Int).toNat [V.int 0]).flatten)) t2 ((List.replicate 8 (0 : Int)).map V.int) := sqT_laid
    generalize L2.upd H1 t2 (.tup (List.replicate (8 : Int).toNat [V.int 0]).flatten) = H2 at s2 h2 ⊢
    refine ⟨by walk_at "size", fun t3 n3 => ?_⟩
    have s3 := same_new5 (o := .tup [.int 0]) n3
    have h3 : SqT K (L2.upd H2 t3 (.tup [.int 0])) t3 [.int 0] := sqT_laid
    generalize L2.upd H2 t3 (.tup [.int 0]) = H3 at s3 h3 ⊢
    have s03 := (s1.trans s2).trans s3
    obtain ⟨a, v1, v2, v3, v4, rfl, sq, e1, e2, e3, e4⟩ := Dp.quad (dc.same s03)
    cases Dp.intInv' e3
    refine ⟨_, rfl, _, _, _, _, rfl, rfl, sq, rfl, t3, (loc : Int), _, rfl, rfl, h3, (fun e => by cases e), by omega, by omega, by decide, fun t4 H4 s4 h4 => ?_⟩
    rw [Int.toNat_natCast, rep_int, rep_map] at h4
    refine ⟨by walk_at "size", fun t5 n5 => ?_⟩
    exact k _ _ ((s03.trans s4).trans (same_new5 n5)) (Dp.lay3 n5 (.int 0) (Dp.ofInts (Same.sqt (s3.trans s4) h2)) (Dp.ofInts h4))
def sp_request (K : PySem.W.Frag) : Sp := fun vs H Q _ => ∃ (cv lv : V) (ps ss : PyData) (loc np : Nat) (cs : List CI) (at_ : Nat) (ws ls : List Int) (c : CI), vs = [cv, lv] ∧ Dp K H cv (codeD ps ss loc cs) ∧ Dp K H lv (laneD at_ ws ls) ∧ cs[at_]? = some c ∧ ws.length = 8 ∧ c.ok np loc ∧
  ∀ r H', Same H H' → Dp K H' r (.tuple (c.req ws)) → Q r H'
theorem code_at {K : PySem.W.Frag} {H : Hp} {cv : V} {ps ss : PyData} {loc : Nat} {cs : List CI} {i : Nat} {c : CI} (h : Dp K H cv (codeD ps ss loc cs)) (e : cs[i]? = some c) :
    ∃ a v1 v2 v3 b ys u, cv = .ref a ∧ SqT K H a [v1, v2, v3, .ref b] ∧ SqT K H b ys ∧ atI ys (i : Int) = some u ∧ Dp K H u c.d := by
  obtain ⟨a, v1, v2, v3, v4, rfl, sq, e1, e2, e3, e4⟩ := Dp.quad h
  obtain ⟨b, ys, u, rfl, q1, q2, q3⟩ := Dp.item' e4 (i := i) (d := c.d) (by rw [List.getElem?_map, e]; rfl)
  exact ⟨a, v1, v2, v3, b, ys, u, rfl, sq, q1, q2, q3⟩
theorem ok_request (T : Tx w K mg) : FnOk P w K mg base CX0 2 T.a_request T.d_request ["code", "lane"] (sp_request K) := by
  refine T.F_request.ok sc_request (fun vs H Q E h => ?_) (fun cdv A outer s H vs Q E hr h => ?_)
  · obtain ⟨cv, lv, ps, ss, loc, np, cs, at_, ws, ls, c, rfl, _⟩ := h
    rfl
  · obtain ⟨cv, lv, ps, ss, loc, np, cs, at_, ws, ls, c, rfl, dc, dl, hc, l8, ok, k⟩ := h
    refine ⟨_, (pss_cons (ps_asg (pv 1) (pg_tup rfl (pgs_cons (pg_name (i := 2) sc_request.nd rfl (.inl rfl)) (pgs_cons (pg_name (i := 3) sc_request.nd rfl (.inl rfl)) (pgs_cons (pg_name (i := 4) sc_request.nd rfl (.inl rfl)) pgs_nil)))))
      (pss_one (ps_ret (pe_call (ok_asked_by T) (hr.mono (by decide)) (by rfl) T.g_asked_by T.F_asked_by.kp T.b_asked_by .nil pass0 (pa_cons (pe_ix ix_tup (pe_ix ix_tup (pv 0) pe_int (fun _ _ => rfl)) (pv 2) (fun _ _ => rfl)) (pa_cons (pv 3) pa_nil)))))), ?_⟩
    obtain ⟨la, w1, w2, w3, rfl, sl, f1, f2, f3⟩ := Dp.tri dl
    cases Dp.intInv' f1
    obtain ⟨a, v1, v2, v3, b, ys, u, rfl, sq, q1, q2, q3⟩ := code_at dc hc
    refine ⟨_, rfl, la, _, rfl, sl, rfl, ?_⟩
    refine ⟨_, _, rfl, _, _, rfl, _, _, rfl, rfl, ?_⟩
    exact ⟨_, rfl, _, _, _, _, rfl, rfl, sq, rfl, _, rfl, _, _, _, _, rfl, rfl, q1, q2, _, rfl, u, w2, c, ws, np, loc, rfl, q3, f2, l8, ok, k⟩
def sp_with_word (K : PySem.W.Frag) : Sp := fun vs H Q _ => ∃ (wv : V) (i : Nat) (x : Int) (ws : List Int), vs = [wv, .int (i : Int), .int x] ∧ Dp K H wv (.tuple (ws.map PyData.int)) ∧ i < ws.length ∧ ws.length ≤ 500 ∧ ∀ r H', Same H H' → Dp K H' r (.tuple ((ws.set i x).map PyData.int)) → Q r H'
theorem ok_with_word (T : Tx w K mg) : FnOk P w K mg base CX0 1 T.a_with_word T.d_with_word ["words", "index", "word"] (sp_with_word K) := by
  refine T.F_with_word.ok sc_with_word (fun vs H Q E h => ?_) (fun cdv A outer s H vs Q E hr h => ?_)
  · obtain ⟨wv, i, x, ws, rfl, _⟩ := h
    rfl
  · obtain ⟨wv, i, x, ws, rfl, dw, hi, hl, k⟩ := h
    refine ⟨_, (pss_one (ps_ret (pe_op op_catA (pe_op op_catA (pe_slice sl_tupA (pv 0) po_none (po_some (pv 1))) (pe_tup (pa_cons (pv 2) pa_nil))) (pe_slice sl_tupA (pv 0) (po_some (pe_op op_add (pv 1) pe_int)) po_none)))), ?_⟩
    obtain ⟨a, rfl, sa⟩ := Dp.intsT dw
    refine ⟨_, rfl, _, rfl, (i : Int), rfl, slA_sq sa fun r1 H1 s1 h1 => ?_⟩
    rw [cut_to _ _ (by rw [List.length_map]; omega)] at h1
    refine ⟨_, rfl, by walk_at "size", fun t2 n2 => ?_⟩
    have s2 := same_new5 (o := .tup [.int x]) n2
    have h2 : SqT K (L2.upd H1 t2 (.tup [.int x])) t2 [.int x] := sqT_laid
    generalize L2.upd H1 t2 (.tup [.int x]) = H2 at s2 h2 ⊢
    refine catA_sq (Same.sqt s2 h1) h2 (Nat.le_of_lt (small1000 (by simp only [List.length_take, List.length_map, List.length_singleton]; omega))) fun r3 H3 s3 h3 => ?_
    have s03 := (s1.trans s2).trans s3
    refine ⟨_, rfl, _, rfl, _, _, rfl, rfl, (i : Int) + 1, rfl, ?_⟩
    dsimp only [tNoPart]
    refine slA_sq (Same.sqt s03 sa) fun r4 H4 s4 h4 => ?_
    rw [show ((i : Int) + 1) = ((i + 1 : Nat) : Int) by omega, cut_from _ _ (by rw [List.length_map]; omega)] at h4
    refine catA_sq (Same.sqt s4 h3) h4 (Nat.le_of_lt (small1000 (by simp only [List.length_append, List.length_take, List.length_drop, List.length_map, List.length_singleton]; omega))) fun r5 H5 s5 h5 => ?_
    rw [set_cut (by rw [List.length_map]; exact hi), ← List.map_set] at h5
    exact k _ _ ((s03.trans s4).trans s5) (Dp.ofInts h5)
def sp_next_index (K : PySem.W.Frag) : Sp := fun vs H Q _ => ∃ (iv : V) (at_ : Int) (rv : V) (c : CI) (ws : List Int) (np loc : Nat), vs = [iv, .int at_, rv] ∧ Dp K H iv c.d ∧ Dp K H rv (.tuple (ws.map PyData.int)) ∧ ws.length = 8 ∧ c.ok np loc ∧ Q (.int (c.nx at_ ws)) H
theorem ok_next_index (T : Tx w K mg) : FnOk P w K mg base CX0 1 T.a_next_index T.d_next_index ["instruction", "at", "registers"] (sp_next_index K) := by
  refine T.F_next_index.ok sc_next_index (fun vs H Q E h => ?_) (fun cdv A outer s H vs Q E hr h => ?_)
  · obtain ⟨iv, at_, rv, c, ws, np, loc, rfl, _⟩ := h
    rfl
  · obtain ⟨iv, at_, rv, c, ws, np, loc, rfl, dc, dr, l8, ok, k⟩ := h
    refine ⟨_, (pss_cons (ps_if (pt_cmpR op_eq (pe_ix ix_tup (pv 0) pe_int (fun _ _ => rfl)) pe_str (nomark _)) (pss_one (ps_ret (pe_ix ix_tup (pv 0) pe_int (fun _ _ => rfl)))) pss_nil)
      (pss_cons (ps_if (PW.pt (pw_and (pt_cmpR op_eq (pe_ix ix_tup (pv 0) pe_int (fun _ _ => rfl)) pe_str (nomark _)) (pw_and1 (pt_cmpR op_ne (pe_ix ix_tup (pv 2) (pe_ix ix_tup (pv 0) pe_int (fun _ _ => rfl)) (fun _ _ => rfl)) pe_int (nomark _))))) (pss_one (ps_ret (pe_ix ix_tup (pv 0) pe_int (fun _ _ => rfl)))) pss_nil)
      (pss_one (ps_ret (pe_op op_add (pv 1) pe_int))))), ?_⟩
    obtain ⟨a, rfl, sq⟩ := Dp.flat dc c.flat
    obtain ⟨b, rfl, sr⟩ := Dp.intsT dr
    have ix : ∀ {i : Nat}, i < 8 → atI (ws.map V.int) (i : Int) = some (.int (ws.getD i 0)) := fun h => atI_ints (by omega)
    cases c
    case jump x => exact ⟨_, rfl, _, _, _, _, rfl, rfl, sq, rfl, rfl, _, rfl, iteY (by decide +kernel) ⟨_, rfl, _, _, _, _, rfl, rfl, sq, rfl, k⟩⟩
    case branch r x j =>
      refine ⟨_, rfl, _, _, _, _, rfl, rfl, sq, rfl, rfl, _, rfl, iteN (by decide +kernel) ?_⟩
      refine ⟨_, rfl, _, _, _, _, rfl, rfl, sq, rfl, rfl, _, rfl, iteY (by decide +kernel) ?_⟩
      refine ⟨_, rfl, _, rfl, _, _, _, _, rfl, rfl, sq, rfl, _, _, _, _, rfl, rfl, sr, ix ok, rfl, _, rfl, ?_⟩
      by_cases z : ws.getD r 0 = 0
      · have e : CI.nx at_ ws (.branch r x j) = at_ + 1 := if_pos z
        rw [e] at k
        rw [z, decide_eq_true rfl]
        exact iteF ⟨_, rfl, _, _, rfl, rfl, k⟩
      · have e : CI.nx at_ ws (.branch r x j) = x := if_neg z
        rw [e] at k
        rw [decide_eq_false (fun q => z (by injection q))]
        exact iteT ⟨_, rfl, _, _, _, _, rfl, rfl, sq, rfl, k⟩
    all_goals
      refine ⟨_, rfl, _, _, _, _, rfl, rfl, sq, rfl, rfl, _, rfl, iteN (by decide +kernel) ?_⟩
      refine ⟨_, rfl, _, _, _, _, rfl, rfl, sq, rfl, rfl, _, rfl, iteN (by decide +kernel) ?_⟩
      first
        | exact ⟨_, rfl, _, _, rfl, rfl, k⟩
        | exact iteN rfl ⟨_, rfl, _, _, rfl, rfl, k⟩
def sp_behind (K : PySem.W.Frag) : Sp := fun vs H Q _ => ∃ (cv lv av : V) (t word : Int) (ps ss : PyData) (loc np : Nat) (cs : List CI) (at_ : Nat) (ws ls : List Int) (c : CI) (l : LN), vs = [cv, lv, .int t, av, .int word] ∧ Dp K H cv (codeD ps ss loc cs) ∧ Dp K H av (laneD at_ ws ls) ∧
  cs[at_]? = some c ∧ ws.length = 8 ∧ ls.length = loc ∧ loc ≤ 100 ∧ (∀ x ∈ ws, W x) ∧ c.ok np loc ∧ Dp K H lv l.d ∧ l.ok np ∧ 0 ≤ t ∧ t < 100 ∧ ∀ r H', Same H H' → Dp K H' r (c.bh l t at_ ws ls word) → Q r H'
theorem wrNe (d : Nat) : (!decide (V.int (d : Int) = V.int (-1))) = true := by
  refine congrArg (! ·) (decide_eq_false fun e => ?_)
  injection e with e
  omega
set_option maxHeartbeats 2000000 in
theorem ok_behind (T : Tx w K mg) : FnOk P w K mg base CX0 5 T.a_behind T.d_behind ["code", "launch", "thread", "lane", "word"] (sp_behind K) := by
  refine T.F_behind.ok sc_behind (fun vs H Q E h => ?_) (fun cdv A outer s H vs Q E hr h => ?_)
  · obtain ⟨cv, lv, av, t, word, ps, ss, loc, np, cs, at_, ws, ls, c, l, rfl, _⟩ := h
    rfl
  · obtain ⟨cv, lv, av, t, word, ps, ss, loc, np, cs, at_, ws, ls, c, l, rfl, dc, da, hc, l8, ll, l100, ww, ok, dl, lok, t0, t1, k⟩ := h
    refine ⟨_, (pss_cons (ps_asg (pv 3) (pg_tup rfl (pgs_cons (pg_name (i := 5) sc_behind.nd rfl (.inl rfl)) (pgs_cons (pg_name (i := 6) sc_behind.nd rfl (.inl rfl)) (pgs_cons (pg_name (i := 7) sc_behind.nd rfl (.inl rfl)) pgs_nil)))))
      (pss_cons (ps_set (i := 8) sc_behind.nd rfl (.inl rfl) (pe_ix ix_tup (pe_ix ix_tup (pv 0) pe_int (fun _ _ => rfl)) (pv 5) (fun _ _ => rfl)))
      (pss_cons (ps_if (pt_cmpR op_eq (pe_ix ix_tup (pv 8) pe_int (fun _ _ => rfl)) pe_str (nomark _)) (pss_one (ps_ret (pv 3))) pss_nil)
      (C8.pss_cut (ps_if (pt_cmpR op_eq (pe_ix ix_tup (pv 8) pe_int (fun _ _ => rfl)) pe_str (nomark _)) (pss_cons (ps_asg (pv 8) (pg_tup rfl (pgs_cons (pg_name (i := 9) sc_behind.nd rfl (.inl rfl)) (pgs_cons (pg_name (i := 10) sc_behind.nd rfl (.inl rfl)) (pgs_cons (pg_name (i := 11) sc_behind.nd rfl (.inl rfl)) pgs_nil)))))
      (pss_one (ps_set (i := 6) sc_behind.nd rfl (.inl rfl) (pe_call (ok_with_word T) (hr.mono (by decide)) (by rfl) T.g_with_word T.F_with_word.kp T.b_with_word .nil pass0 (pa_cons (pv 6) (pa_cons (pv 10) (pa_cons (pe_ix ix_tup (pv 7) (pv 11) (fun _ _ => rfl)) pa_nil))))))) (pss_one (ps_if (pt_cmpR op_eq (pe_ix ix_tup (pv 8) pe_int (fun _ _ => rfl)) pe_str (nomark _)) (pss_cons (ps_asg (pv 8) (pg_tup rfl (pgs_cons (pg_name (i := 9) sc_behind.nd rfl (.inl rfl)) (pgs_cons (pg_name (i := 11) sc_behind.nd rfl (.inl rfl)) (pgs_cons (pg_name (i := 12) sc_behind.nd rfl (.inl rfl)) pgs_nil)))))
      (pss_one (ps_set (i := 7) sc_behind.nd rfl (.inl rfl) (pe_call (ok_with_word T) (hr.mono (by decide)) (by rfl) T.g_with_word T.F_with_word.kp T.b_with_word .nil pass0 (pa_cons (pv 7) (pa_cons (pv 11) (pa_cons (pe_ix ix_tup (pv 6) (pv 12) (fun _ _ => rfl)) pa_nil))))))) (pss_one (ps_if (pt_cmpR op_ne (pe_call (ok_written T) (hr.mono (by decide)) (by rfl) T.g_written T.F_written.kp T.b_written .nil pass0 (pa_cons (pv 8) pa_nil)) (pe_gq (by rfl) T.q_NO_REGISTER) (nomark _)) (pss_cons (ps_set (i := 13) sc_behind.nd rfl (.inl rfl) (pe_call (ok_made_by T) (hr.mono (by decide)) (by rfl) T.g_made_by T.F_made_by.kp T.b_made_by .nil pass0 (pa_cons (pv 8) (pa_cons (pv 6) (pa_cons (pv 1) (pa_cons (pv 2) (pa_cons (pv 4) pa_nil)))))))
      (pss_one (ps_set (i := 6) sc_behind.nd rfl (.inl rfl) (pe_call (ok_with_word T) (hr.mono (by decide)) (by rfl) T.g_with_word T.F_with_word.kp T.b_with_word .nil pass0 (pa_cons (pv 6) (pa_cons (pe_call (ok_written T) (hr.mono (by decide)) (by rfl) T.g_written T.F_written.kp T.b_written .nil pass0 (pa_cons (pv 8) pa_nil)) (pa_cons (pv 13) pa_nil))))))) pss_nil)))))
      (pss_one (ps_ret (pe_tup (pa_cons (pe_call (ok_next_index T) (hr.mono (by decide)) (by rfl) T.g_next_index T.F_next_index.kp T.b_next_index .nil pass0 (pa_cons (pv 8) (pa_cons (pv 5) (pa_cons (pv 6) pa_nil)))) (pa_cons (pv 6) (pa_cons (pv 7) pa_nil)))))))))), ?_⟩
    obtain ⟨la, w1, w2, w3, rfl, sl, f1, f2, f3⟩ := Dp.tri da
    cases Dp.intInv' f1
    obtain ⟨a, v1, v2, v3, b, ys, u, rfl, sq0, q1, q2, q3⟩ := code_at dc hc
    refine ⟨_, rfl, la, _, rfl, sl, rfl, ?_⟩
    refine ⟨_, _, rfl, _, _, rfl, _, _, rfl, rfl, ?_⟩
    refine ⟨_, rfl, _, _, _, _, rfl, rfl, sq0, rfl, _, rfl, _, _, _, _, rfl, rfl, q1, q2, ?_⟩
    obtain ⟨ia, rfl, sq⟩ := Dp.flat q3 c.flat
    obtain ⟨rb, rfl, sr⟩ := Dp.intsT f2
    obtain ⟨lb, rfl, sl2⟩ := Dp.intsT f3
    have ix : ∀ {i : Nat}, i < 8 → atI (ws.map V.int) (i : Int) = some (.int (ws.getD i 0)) := fun h => atI_ints (by omega)
    have rl : (c.regs l t ws ls word).length = 8 := by cases c <;> simp only [CI.regs, CI.wr, List.length_set, l8]
    have ed : c ≠ .exit → c.bh l t at_ ws ls word = laneD (c.nx at_ (c.regs l t ws ls word)) (c.regs l t ws ls word) (c.locs ws ls) := fun ne => by
      cases c <;> first | rfl | exact absurd rfl ne
    generalize hB : c.bh l t at_ ws ls word = B at k ed
    generalize hR : c.regs l t ws ls word = R at rl ed
    generalize hL : c.locs ws ls = L at ed
    generalize hN : c.nx at_ R = N at ed
    have fin : c ≠ .exit → ∀ (rv' cv' : V) (H1 : Hp), Same H H1 → Dp K H1 rv' (.tuple (R.map PyData.int)) → Dp K H1 cv' (.tuple (L.map PyData.int)) → ∀ r, H1 r = none → Q (.ref r) (L2.upd H1 r (.tup [.int N, rv', cv'])) := fun ne rv' cv' H1 s1 h1 h2 r nr =>
      k _ _ (s1.trans (same_new5 nr)) (by rw [ed ne]; exact Dp.lay3 nr (.int _) h1 h2)
    have ending : c ≠ .exit → ∀ (rv' cv' : V) (y9 y10 y11 y12 y13 : Option V) (H1 : Hp), Same H H1 → Dp K H1 rv' (.tuple (R.map PyData.int)) → Dp K H1 cv' (.tuple (L.map PyData.int)) →
        tRet (tTup (tCons (tCall (sp_next_index K) [] E0 (tCons (tVar 8) (tCons (tVar 5) (tCons (tVar 6) tNil)))) (tCons (tVar 6) (tCons (tVar 7) tNil)))) { nx := fun x H' => Q V.non H', rt := Q } [some (.ref a), some lv, some (.int t), some (.ref la), some (.int word), some (.int (at_ : Int)), some rv', some cv', some (.ref ia), y9, y10, y11, y12, y13] H1 := by
      intro ne rv' cv' y9 y10 y11 y12 y13 H1 s1 h1 h2
      refine ⟨_, rfl, _, rfl, _, rfl, .ref ia, at_, rv', c, R, np, loc, rfl, q3.same s1, h1, rl, ok, ?_⟩
      rw [hN]
      exact ⟨_, rfl, _, rfl, by walk_at "size", fun r nr => fin ne rv' cv' H1 s1 h1 h2 r nr⟩
    have mid : ∀ {t1 : TS} {y9 y10 y11 y12 y13 : Option V}, c ≠ .exit → t1 { nx := fun σ' H1 => ∃ rv' cv' y9 y10 y11 y12 y13, σ' = [some (.ref a), some lv, some (.int t), some (.ref la), some (.int word), some (.int (at_ : Int)), some rv', some cv', some (.ref ia), y9, y10, y11, y12, y13] ∧ Same H H1 ∧ Dp K H1 rv' (.tuple (R.map PyData.int)) ∧ Dp K H1 cv' (.tuple (L.map PyData.int)), rt := Q }
        [some (.ref a), some lv, some (.int t), some (.ref la), some (.int word), some (.int (at_ : Int)), some (.ref rb), some (.ref lb), some (.ref ia), y9, y10, y11, y12, y13] H →
        C8.tCut t1 (tRet (tTup (tCons (tCall (sp_next_index K) [] E0 (tCons (tVar 8) (tCons (tVar 5) (tCons (tVar 6) tNil)))) (tCons (tVar 6) (tCons (tVar 7) tNil))))) { nx := fun x H' => Q V.non H', rt := Q } [some (.ref a), some lv, some (.int t), some (.ref la), some (.int word), some (.int (at_ : Int)), some (.ref rb), some (.ref lb), some (.ref ia), y9, y10, y11, y12, y13] H := fun ne h => by
      refine ⟨_, h, ?_⟩
      rintro σ' H1 ⟨rv', cv', y9, y10, y11, y12, y13, rfl, s1, h1, h2⟩
      exact ending ne rv' cv' y9 y10 y11 y12 y13 H1 s1 h1 h2
    have wx : ∀ {i : Nat}, i < 8 → W (ws.getD i 0) := fun {i} h => ww _ (by rw [List.getD_eq_getElem?_getD, List.getElem?_eq_getElem (by omega)]; exact List.getElem_mem (by omega))
    clear ending fin
    cases c
    case exit => exact ⟨_, rfl, _, _, _, _, rfl, rfl, sq, rfl, rfl, _, rfl, iteY (by decide +kernel) ⟨_, rfl, k _ _ (.refl H) (by rw [← hB]; exact da)⟩⟩
    all_goals
      refine ⟨_, rfl, _, _, _, _, rfl, rfl, sq, rfl, rfl, _, rfl, iteN (by decide +kernel) ?_⟩
      refine mid (fun e => by cases e) ?_
    case get d n =>
      refine ⟨_, rfl, _, _, _, _, rfl, rfl, sq, rfl, rfl, _, rfl, iteY (by decide +kernel) ?_⟩
      refine ⟨_, rfl, _, _, rfl, sq, rfl, ?_⟩
      refine ⟨_, _, rfl, _, _, rfl, _, _, rfl, rfl, ?_⟩
      refine ⟨_, rfl, _, rfl, _, rfl, _, rfl, _, _, _, _, rfl, rfl, sl2, atI_ints (by have := ok.2; omega), .ref rb, d, _, ws, rfl, f2, (by have := ok.1; omega), by omega, fun r H1 s1 h1 => ?_⟩
      exact ⟨_, _, _, _, _, _, _, rfl, s1, by rw [← hR]; exact h1, by rw [← hL]; exact f3.same s1⟩
    case keep n r =>
      refine ⟨_, rfl, _, _, _, _, rfl, rfl, sq, rfl, rfl, _, rfl, iteN (by decide +kernel) ?_⟩
      refine ⟨_, rfl, _, _, _, _, rfl, rfl, sq, rfl, rfl, _, rfl, iteY (by decide +kernel) ?_⟩
      refine ⟨_, rfl, _, _, rfl, sq, rfl, ?_⟩
      refine ⟨_, _, rfl, _, _, rfl, _, _, rfl, rfl, ?_⟩
      refine ⟨_, rfl, _, rfl, _, rfl, _, rfl, _, _, _, _, rfl, rfl, sr, ix ok.2, .ref lb, n, _, ls, rfl, f3, (by have := ok.1; omega), by omega, fun r H1 s1 h1 => ?_⟩
      exact ⟨_, _, _, _, _, _, _, rfl, s1, by rw [← hR]; exact f2.same s1, by rw [← hL]; exact h1⟩
    all_goals
      refine ⟨_, rfl, _, _, _, _, rfl, rfl, sq, rfl, rfl, _, rfl, iteN (by decide +kernel) ?_⟩
      refine ⟨_, rfl, _, _, _, _, rfl, rfl, sq, rfl, rfl, _, rfl, iteN (by decide +kernel) ?_⟩
      refine ⟨_, rfl, .ref ia, _, rfl, q3, rfl, _, rfl, ?_⟩
    case store | atomic | barrier | jump | branch => exact iteN (show (!decide (V.int (-1) = V.int (-1))) = false by decide +kernel) ⟨_, _, _, _, _, _, _, rfl, .refl H, by rw [← hR]; exact f2, by rw [← hL]; exact f3⟩
    all_goals
      refine iteY (wrNe _) ?_
      refine ⟨_, rfl, _, rfl, _, rfl, _, rfl, _, rfl, .ref ia, .ref rb, lv, t, word, _, ws, np, loc, l, rfl, q3, f2, l8, ww, ok, dl, lok, t0, t1, (fun _ _ e => by cases e), fun H1 s1 => ?_⟩
      refine ⟨_, rfl, _, rfl, .ref ia, _, rfl, q3.same s1, _, rfl, .ref rb, _, _, ws, rfl, f2.same s1, (by first | (have := ok.1; omega) | (have : _ < 8 := ok; omega)), by omega, fun r H2 s2 h2 => ?_⟩
      exact ⟨_, _, _, _, _, _, _, rfl, s1.trans s2, by rw [← hR]; exact h2, by rw [← hL]; exact f3.same (s1.trans s2)⟩
/-! ### the checks of numbers, tuples, names -/
def numIn (lo hi : Int) : PyData → Bool
  | .int i => decide (lo ≤ i) && decide (i ≤ hi)
  | _ => false
def tupIn (lo hi : Int) : PyData → Bool
  | .tuple xs => decide (lo ≤ (xs.length : Int)) && decide ((xs.length : Int) ≤ hi)
  | _ => false
def wordD (d : PyData) : Bool := numIn (-2147483648) 2147483647 d
def spD (K : PySem.W.Frag) (f : PyData → Bool) : Sp := fun vs H Q _ => ∃ (v : V) (d : PyData), vs = [v] ∧ Dp K H v d ∧ ∀ H', Same H H' → Q (.bl (f d)) H'
def spD2 (K : PySem.W.Frag) (f : Int → Int → PyData → Bool) : Sp := fun vs H Q _ => ∃ (v : V) (d : PyData) (lo hi : Int), vs = [v, .int lo, .int hi] ∧ Dp K H v d ∧ Q (.bl (f lo hi d)) H
theorem ok_is_between (T : Tx w K mg) : FnOk P w K mg base CX0 1 T.a_is_between T.d_is_between ["value", "least", "most"] (spD2 K numIn) := by
  refine T.F_is_between.ok sc_is_between (fun vs H Q E h => ?_) (fun cdv A outer s H vs Q E hr h => ?_)
  · obtain ⟨v, d, lo, hi, rfl, _⟩ := h
    rfl
  · obtain ⟨v, d, lo, hi, rfl, hd, q⟩ := h
    refine ⟨_, (pss_cons (ps_if (PW.pt (pw_or (pt_not (pt_val (pe_callB call_isi (by rfl) T.z_isinstance (by decide +kernel) (pa_cons (pv 0) (pa_cons (pe_bltn (v := .ty "int") (u := .type "int") (by rfl) T.z_int (by decide +kernel) rfl) pa_nil))))) (pw_or1 (pt_val (pe_callB call_isi (by rfl) T.z_isinstance (by decide +kernel) (pa_cons (pv 0) (pa_cons (pe_bltn (v := .ty "bool") (u := .type "bool") (by rfl) T.z_bool (by decide +kernel) rfl) pa_nil))))))) (pss_one (ps_ret pe_bl)) pss_nil)
      (pss_one (ps_ret (pe_chain op_le op_le (pv 1) (pv 0) (pv 2))))), ?_⟩
    refine ⟨_, rfl, _, _, _, _, _, rfl, .ty "int", hd.tyx, kit_int d, _, rfl, ?_⟩
    cases hd with
    | int i =>
      refine ⟨_, rfl, _, _, _, _, _, rfl, .ty "bool", .base (.int i), kit_bool (.int i), _, rfl, iteF ?_⟩
      refine ⟨_, rfl, _, rfl, _, _, rfl, rfl, _, rfl, ?_⟩
      by_cases h1 : lo ≤ i
      · rw [decide_eq_true h1]
        refine iteT ⟨_, rfl, _, _, rfl, rfl, ?_⟩
        have e : numIn lo hi (.int i) = decide (i ≤ hi) := by show (decide (lo ≤ i) && decide (i ≤ hi)) = _; rw [decide_eq_true h1, Bool.true_and]
        rw [e] at q
        exact q
      · rw [decide_eq_false h1]
        have e : numIn lo hi (.int i) = false := by show (decide (lo ≤ i) && decide (i ≤ hi)) = _; rw [decide_eq_false h1, Bool.false_and]
        rw [e] at q
        exact iteF q
    | bl b => exact ⟨_, rfl, _, _, _, _, _, rfl, .ty "bool", .base (.bl b), kit_bool (.bool b), _, rfl, q⟩
    | non => exact q
    | str x => exact q
    | lst h r => exact q
    | tup h r => exact q
theorem ok_is_word (T : Tx w K mg) : FnOk P w K mg base CX0 2 T.a_is_word T.d_is_word ["value"] (spD K wordD) := by
  refine T.F_is_word.ok sc_is_word (fun vs H Q E h => ?_) (fun cdv A outer s H vs Q E hr h => ?_)
  · obtain ⟨v, d, rfl, _⟩ := h
    rfl
  · obtain ⟨v, d, rfl, hd, q⟩ := h
    refine ⟨_, (pss_one (ps_ret (pe_call (ok_is_between T) (hr.mono (by decide)) (by rfl) T.g_is_between T.F_is_between.kp T.b_is_between .nil pass0 (pa_cons (pv 0) (pa_cons (pe_gq (by rfl) T.q_LEAST) (pa_cons (pe_gq (by rfl) T.q_GREATEST) pa_nil)))))), ?_⟩
    exact ⟨_, rfl, v, d, _, _, rfl, hd, q _ (.refl H)⟩
theorem ok_is_tuple (T : Tx w K mg) : FnOk P w K mg base CX0 1 T.a_is_tuple T.d_is_tuple ["value", "least", "most"] (spD2 K tupIn) := by
  refine T.F_is_tuple.ok sc_is_tuple (fun vs H Q E h => ?_) (fun cdv A outer s H vs Q E hr h => ?_)
  · obtain ⟨v, d, lo, hi, rfl, _⟩ := h
    rfl
  · obtain ⟨v, d, lo, hi, rfl, hd, q⟩ := h
    refine ⟨_, (pss_one (ps_ret (pe_and (pe_callB call_isi (by rfl) T.z_isinstance (by decide +kernel) (pa_cons (pv 0) (pa_cons (pe_bltn (v := .ty "tuple") (u := .type "tuple") (by rfl) T.z_tuple (by decide +kernel) rfl) pa_nil))) (pe_one (pe_chain op_le op_le (pv 1) (pe_callB call_len_seq (by rfl) T.z_len (by decide +kernel) (pa_cons (pv 0) pa_nil)) (pv 2)))))), ?_⟩
    refine ⟨_, rfl, _, _, _, _, _, rfl, .ty "tuple", hd.tyx, kit_tup d, _, rfl, ?_⟩
    cases hd with
    | @tup a xs ds h r =>
      have el : (xs.length : Int) = (ds.length : Int) := by rw [r.len]
      refine iteT ⟨_, rfl, _, rfl, a, xs, rfl, .inr h, _, _, rfl, rfl, _, rfl, ?_⟩
      by_cases h1 : lo ≤ (xs.length : Int)
      · rw [decide_eq_true h1]
        refine iteT ⟨_, rfl, _, _, rfl, rfl, ?_⟩
        have e : tupIn lo hi (.tuple ds) = decide ((xs.length : Int) ≤ hi) := by show (decide (lo ≤ (ds.length : Int)) && decide ((ds.length : Int) ≤ hi)) = _; rw [← el, decide_eq_true h1, Bool.true_and]
        rw [e] at q
        exact q
      · rw [decide_eq_false h1]
        have e : tupIn lo hi (.tuple ds) = false := by show (decide (lo ≤ (ds.length : Int)) && decide ((ds.length : Int) ≤ hi)) = _; rw [← el, decide_eq_false h1, Bool.false_and]
        rw [e] at q
        exact iteF q
    | int i => exact q
    | bl b => exact q
    | non => exact q
    | str x => exact q
    | lst h r => exact q
/-- the bools that a comprehension has made so far -/
theorem bools_snoc {xs : List PyData} {f : PyData → Bool} {i : Nat} {d : PyData} (h : xs[i]? = some d) : ((xs.take (i + 1)).map fun d => V.bl (f d)) = ((xs.take i).map fun d => V.bl (f d)) ++ [V.bl (f d)] := by
  rw [List.take_add_one, h, List.map_append]
  rfl
theorem all_bools (xs : List PyData) (f : PyData → Bool) : (xs.map f).all id = xs.all f := by
  induction xs with
  | nil => rfl
  | cons x r ih => rw [List.map_cons, List.all_cons, List.all_cons, ih]; rfl
def letC (c : Nat) : Bool := decide (c ∈ ("abcdefghijklmnopqrstuvwxyz" : Str).cps.toList)
def digC (c : Nat) : Bool := decide (c ∈ ("0123456789" : Str).cps.toList)
def nameS (cs : List Nat) : Bool := match cs with
  | [] => false
  | c :: r => decide (cs.length ≤ 12) && letC c && (cs.all fun c => letC c || digC c)
def nameD : PyData → Bool
  | .str x => nameS x.cps.toList
  | _ => false
def spS (K : PySem.W.Frag) (f : PyData → Bool) : Sp := fun vs H Q _ => ∃ (v : V) (d : PyData), vs = [v] ∧ Dp K H v d ∧ fine d = true ∧ ∀ H', Same H H' → Q (.bl (f d)) H'
theorem cbools_snoc {xs : List Nat} {f : Nat → Bool} {i : Nat} {d : Nat} (h : xs[i]? = some d) : ((xs.take (i + 1)).map fun d => V.bl (f d)) = ((xs.take i).map fun d => V.bl (f d)) ++ [V.bl (f d)] := by
  rw [List.take_add_one, h, List.map_append]
  rfl
theorem call_bools (xs : List Nat) (f : Nat → Bool) : (xs.map f).all id = xs.all f := by
  induction xs with
  | nil => rfl
  | cons x r ih => rw [List.map_cons, List.all_cons, List.all_cons, ih]; rfl
theorem atI_head {α : Type} {c : α} {r : List α} : atI (c :: r) 0 = some c := atI_nat (j := 0) rfl
theorem ok_is_name (T : Tx w K mg) : FnOk P w K mg base CX0 1 T.a_is_name T.d_is_name ["value"] (spS K nameD) := by
  refine T.F_is_name.ok sc_is_name (fun vs H Q E h => ?_) (fun cdv A outer s H vs Q E hr h => ?_)
  · obtain ⟨v, d, rfl, _⟩ := h
    rfl
  · obtain ⟨v, d, rfl, hd, hs, q⟩ := h
    refine ⟨_, (pss_cons (ps_if (PW.pt (pw_or (pt_not (pt_val (pe_callB call_isi (by rfl) T.z_isinstance (by decide +kernel) (pa_cons (pv 0) (pa_cons (pe_bltn (v := .ty "str") (u := .type "str") (by rfl) T.z_str (by decide +kernel) rfl) pa_nil))))) (pw_or1 (pt_not (pt_chain op_le op_le pe_int (pe_callB call_len_str (by rfl) T.z_len (by decide +kernel) (pa_cons (pv 0) pa_nil)) (pe_gq (by rfl) T.q_MOST_LETTERS)))))) (pss_one (ps_ret pe_bl)) pss_nil)
      (pss_cons (ps_if (pt_cmpR op_notIn_sign (pe_ix ix_str (pv 0) pe_int (fun _ _ => rfl)) (pe_gq (by rfl) T.q_LETTERS) (by rfl)) (pss_one (ps_ret pe_bl)) pss_nil)
      (pss_one (ps_ret (pe_callB (cr_all rfl) (by rfl) T.z_all (by decide +kernel) (pa_cons (pe_lc (own := [("letter", 1)]) (g := gName 1) (tt := tYes) rfl sc_is_name.nd (pi_str (pv 0)) (blkOk_by (N := ["value", "letter"]) (sc := defScope s_is_name) (by decide +kernel)) (fun _ _ _ _ _ => (pg_name (i := 1) sc_is_name.nd rfl (.inl rfl))) (fun _ _ _ _ _ => pts_nil) (fun _ _ _ _ _ => (pe_or (pe_cmpR op_in_sign (pv 1) (pe_gq (by rfl) T.q_LETTERS) (by rfl)) (pe_one (pe_cmpR op_in_sign (pv 1) (pe_gq (by rfl) T.q_DIGITS) (by rfl)))))) pa_nil)))))), ?_⟩
    refine ⟨_, rfl, _, _, _, _, _, rfl, .ty "str", hd.tyx, kit_str d, _, rfl, ?_⟩
    cases hd with
    | str x =>
      refine ⟨_, rfl, x, rfl, fine_len hs, _, _, rfl, rfl, _, rfl, ?_⟩
      obtain ⟨⟨cs⟩⟩ := x
      by_cases h1 : (1 : Int) ≤ ((⟨⟨cs⟩⟩ : Str).length : Int)
      · rw [decide_eq_true h1]
        refine iteT ⟨_, _, rfl, rfl, _, rfl, ?_⟩
        cases cs with
        | nil => exact absurd h1 (by show ¬ ((1 : Int) ≤ ((0 : Nat) : Int)); omega)
        | cons c r =>
        have el : ((⟨⟨c :: r⟩⟩ : Str).length : Int) = ((c :: r).length : Int) := rfl
        by_cases h2 : ((⟨⟨c :: r⟩⟩ : Str).length : Int) ≤ 12
        · rw [decide_eq_true h2]
          have h3 : (c :: r).length ≤ 12 := by rw [el] at h2; omega
          refine iteF ⟨_, rfl, _, _, c, rfl, rfl, fine_len hs, atI_head, c, _, rfl, rfl, _, rfl, ?_⟩
          have en : nameD (.str ⟨⟨c :: r⟩⟩) = (letC c && ((c :: r).all fun c => letC c || digC c)) := by
            show (decide ((c :: r).length ≤ 12) && letC c && _) = _
            rw [decide_eq_true h3, Bool.true_and]
          rw [en] at q
          show ite ((!letC c) = true) _ _
          cases hc : letC c with
          | false =>
            rw [hc] at q
            exact iteT (q _ (.refl H))
          | true =>
          rw [hc, Bool.true_and] at q
          refine iteF ⟨_, rfl, _, rfl, fun D nD => lc_it walk_str (fun i H' => H' D = some (.lst (((c :: r).take i).map fun c => V.bl (letC c || digC c))) ∧ Same H H') ⟨upd_same, fun c o e => by rw [upd_ne (ne_of_none e nD)]; exact e⟩ (fun _ _ _ _ => trivial) ?_ ?_⟩
          · rintro i x H1 H1' hi ⟨eD, sm⟩ ⟨rfl, ch, ex, rfl⟩
            have hx : (c :: r)[i]? = some ch := by simpa using ex
            have hi2 : i < (c :: r).length := (List.getElem?_eq_some_iff.mp hx).1
            have fin : ∀ b : Bool, b = (letC ch || digC ch) → ∃ acc, H1' D = some (HO.lst acc) ∧ acc.length < sizeLine ∧ upd H1' D (HO.lst (acc ++ [V.bl b])) D = some (HO.lst (List.map (fun c => V.bl (letC c || digC c)) (List.take (i + 1) (c :: r)))) ∧ Same H (upd H1' D (HO.lst (acc ++ [V.bl b]))) := by
              rintro b rfl
              refine ⟨_, eD, ?_, ?_, fun c o e => ?_⟩
              · rw [List.length_map]; exact small1000 (by rw [List.length_take]; omega)
              · rw [upd_same, cbools_snoc hx]
              · rw [upd_ne (ne_of_none e nD)]; exact sm _ _ e
            refine ⟨rfl, _, rfl, ch, _, rfl, rfl, _, rfl, ?_⟩
            show ite (letC ch = true) _ _
            cases hl : letC ch with
            | true => exact iteT (fin true (by rw [hl]; rfl))
            | false => exact iteF ⟨_, rfl, ch, _, rfl, rfl, fin _ (by rw [hl]; rfl)⟩
          · rintro H1 ⟨eD, sm⟩
            replace eD : H1 D = some (.lst (((c :: r).take (c :: r).length).map fun c => V.bl (letC c || digC c))) := eD
            rw [List.take_length] at eD
            refine ⟨D, (c :: r).map fun c => letC c || digC c, rfl, SqL.of (by rw [List.map_map]; exact eD), ?_⟩
            rw [call_bools]
            exact q _ sm
        · rw [decide_eq_false h2]
          have en : nameD (.str ⟨⟨c :: r⟩⟩) = false := by
            show (decide ((c :: r).length ≤ 12) && letC c && _) = _
            rw [decide_eq_false (by rw [el] at h2; omega), Bool.false_and, Bool.false_and]
          rw [en] at q
          exact iteT (q _ (.refl H))
      · rw [decide_eq_false h1]
        have e : cs = [] := by
          cases cs with
          | nil => rfl
          | cons c r => exact absurd (by show (1 : Int) ≤ ((r.length + 1 : Nat) : Int); omega) h1
        subst e
        exact iteF ⟨_, rfl, q _ (.refl H)⟩
    | int i => exact q _ (.refl H)
    | bl b => exact q _ (.refl H)
    | non => exact q _ (.refl H)
    | tup h r => exact q _ (.refl H)
    | lst h r => exact q _ (.refl H)
def sortD (p q : Str) : PyData → Bool := oneOf [p, q]
def paramD : PyData → Bool
  | .tuple [a, b] => nameD a && oneOf ["int", "buffer"] b
  | _ => false
def sharedD : PyData → Bool
  | .tuple [a, b] => nameD a && numIn 1 16 b
  | _ => false
theorem tupIn2 {d : PyData} (h : tupIn 2 2 d = true) : ∃ a b, d = .tuple [a, b] := by
  cases d with
  | tuple xs =>
    replace h : (decide ((2 : Int) ≤ (xs.length : Int)) && decide ((xs.length : Int) ≤ 2)) = true := h
    rw [Bool.and_eq_true] at h
    have h1 := of_decide_eq_true h.1
    have h2 := of_decide_eq_true h.2
    match xs, h1, h2 with
    | [a, b], _, _ => exact ⟨a, b, rfl⟩
    | [], h, _ => exact absurd h (by show ¬ ((2 : Int) ≤ ((0 : Nat) : Int)); omega)
    | [_], h, _ => exact absurd h (by show ¬ ((2 : Int) ≤ ((1 : Nat) : Int)); omega)
    | _ :: _ :: _ :: r, _, h => exact absurd h (by simp only [List.length_cons]; omega)
  | _ => cases h
theorem ok_is_param (T : Tx w K mg) : FnOk P w K mg base CX0 4 T.a_is_param T.d_is_param ["value"] (spS K paramD) := by
  refine T.F_is_param.ok sc_is_param (fun vs H Q E h => ?_) (fun cdv A outer s H vs Q E hr h => ?_)
  · obtain ⟨v, d, rfl, _⟩ := h
    rfl
  · obtain ⟨v, d, rfl, hd, hs, q⟩ := h
    refine ⟨_, (pss_one (ps_ret (pe_and (pe_call (ok_is_tuple T) (hr.mono (by decide)) (by rfl) T.g_is_tuple T.F_is_tuple.kp T.b_is_tuple .nil pass0 (pa_cons (pv 0) (pa_cons pe_int (pa_cons pe_int pa_nil)))) (pe_and (pe_call (ok_is_name T) (hr.mono (by decide)) (by rfl) T.g_is_name T.F_is_name.kp T.b_is_name .nil pass0 (pa_cons (pe_ix ix_tup (pv 0) pe_int (fun _ _ => rfl)) pa_nil)) (pe_one (pe_cmpR (op_inT hr.units) (pe_ix ix_tup (pv 0) pe_int (fun _ _ => rfl)) (pe_tup (pa_cons pe_str (pa_cons pe_str pa_nil))) (by rfl))))))), ?_⟩
    refine ⟨_, rfl, v, d, 2, 2, rfl, hd, _, rfl, ?_⟩
    by_cases ht : tupIn 2 2 d = true
    · rw [ht]
      obtain ⟨da, db, rfl⟩ := tupIn2 ht
      cases hd with
      | @tup a xs ds h r =>
      cases r with
      | @cons va _ _ _ pa r2 =>
      cases r2 with
      | @cons vb _ _ _ pb r3 =>
      cases r3
      have fs := fine_tup hs
      refine iteT ⟨_, rfl, a, [va, vb], 0, va, rfl, rfl, h, rfl, va, da, rfl, pa, fineAll_mem fs (.head _), fun H1 s1 => ⟨_, rfl, ?_⟩⟩
      have e : paramD (.tuple [da, db]) = (nameD da && oneOf ["int", "buffer"] db) := rfl
      rw [e] at q
      cases hn : nameD da with
      | false =>
        rw [hn] at q
        exact iteF (q _ s1)
      | true =>
      rw [hn, Bool.true_and] at q
      refine iteT ⟨_, rfl, a, [va, vb], 1, vb, rfl, rfl, Same.sqt s1 h, rfl, by decide +kernel, fun p np => ?_⟩
      have s2 := s1.trans (same_new5 (o := .tup [.str "int", .str "buffer"]) np)
      exact rInT_strs ["int", "buffer"] (pb.same s2) (.tup (.inl (.inl upd_same)) (DpAll.strs ["int", "buffer"])) (fine_lay _ (fineAll_mem fs (.tail _ (.head _)))) (by decide +kernel) (q _ s2)
    · rw [Bool.eq_false_iff.mpr ht]
      have e : paramD d = false := by
        unfold paramD
        split
        · exact absurd rfl ht
        · rfl
      rw [e] at q
      exact iteF (q _ (.refl H))
theorem ok_is_shared_array (T : Tx w K mg) : FnOk P w K mg base CX0 4 T.a_is_shared_array T.d_is_shared_array ["value"] (spS K sharedD) := by
  refine T.F_is_shared_array.ok sc_is_shared_array (fun vs H Q E h => ?_) (fun cdv A outer s H vs Q E hr h => ?_)
  · obtain ⟨v, d, rfl, _⟩ := h
    rfl
  · obtain ⟨v, d, rfl, hd, hs, q⟩ := h
    refine ⟨_, (pss_one (ps_ret (pe_and (pe_call (ok_is_tuple T) (hr.mono (by decide)) (by rfl) T.g_is_tuple T.F_is_tuple.kp T.b_is_tuple .nil pass0 (pa_cons (pv 0) (pa_cons pe_int (pa_cons pe_int pa_nil)))) (pe_and (pe_call (ok_is_name T) (hr.mono (by decide)) (by rfl) T.g_is_name T.F_is_name.kp T.b_is_name .nil pass0 (pa_cons (pe_ix ix_tup (pv 0) pe_int (fun _ _ => rfl)) pa_nil)) (pe_one (pe_call (ok_is_between T) (hr.mono (by decide)) (by rfl) T.g_is_between T.F_is_between.kp T.b_is_between .nil pass0 (pa_cons (pe_ix ix_tup (pv 0) pe_int (fun _ _ => rfl)) (pa_cons pe_int (pa_cons (pe_gq (by rfl) T.q_MOST_SHARED_CELLS) pa_nil))))))))), ?_⟩
    refine ⟨_, rfl, v, d, 2, 2, rfl, hd, _, rfl, ?_⟩
    by_cases ht : tupIn 2 2 d = true
    · rw [ht]
      obtain ⟨da, db, rfl⟩ := tupIn2 ht
      cases hd with
      | @tup a xs ds h r =>
      cases r with
      | @cons va _ _ _ pa r2 =>
      cases r2 with
      | @cons vb _ _ _ pb r3 =>
      cases r3
      have fs := fine_tup hs
      refine iteT ⟨_, rfl, a, [va, vb], 0, va, rfl, rfl, h, rfl, va, da, rfl, pa, fineAll_mem fs (.head _), fun H1 s1 => ⟨_, rfl, ?_⟩⟩
      have e : sharedD (.tuple [da, db]) = (nameD da && numIn 1 16 db) := rfl
      rw [e] at q
      cases hn : nameD da with
      | false =>
        rw [hn] at q
        exact iteF (q _ s1)
      | true =>
      rw [hn, Bool.true_and] at q
      exact iteT ⟨_, rfl, a, [va, vb], 1, vb, rfl, rfl, Same.sqt s1 h, rfl, vb, db, 1, 16, rfl, pb.same s1, q _ s1⟩
    · rw [Bool.eq_false_iff.mpr ht]
      have e : sharedD d = false := by
        unfold sharedD
        split
        · exact absurd rfl ht
        · rfl
      rw [e] at q
      exact iteF (q _ (.refl H))
def firstD : PyData → Str
  | .tuple (.str x :: _) => x
  | _ => ""
def sp_first_word (K : PySem.W.Frag) : Sp := fun vs H Q _ => ∃ (v : V) (d : PyData), vs = [v] ∧ Dp K H v d ∧ Q (.str (firstD d)) H
theorem ok_first_word (T : Tx w K mg) : FnOk P w K mg base CX0 2 T.a_first_word T.d_first_word ["value"] (sp_first_word K) := by
  refine T.F_first_word.ok sc_first_word (fun vs H Q E h => ?_) (fun cdv A outer s H vs Q E hr h => ?_)
  · obtain ⟨v, d, rfl, _⟩ := h
    rfl
  · obtain ⟨v, d, rfl, hd, q⟩ := h
    refine ⟨_, (pss_cons (ps_if (PW.pt (pw_and (pt_val (pe_callB call_isi (by rfl) T.z_isinstance (by decide +kernel) (pa_cons (pv 0) (pa_cons (pe_bltn (v := .ty "tuple") (u := .type "tuple") (by rfl) T.z_tuple (by decide +kernel) rfl) pa_nil)))) (pw_and (pt_cmpR op_gt (pe_callB call_len_seq (by rfl) T.z_len (by decide +kernel) (pa_cons (pv 0) pa_nil)) pe_int (nomark _)) (pw_and1 (pt_val (pe_callB call_isi (by rfl) T.z_isinstance (by decide +kernel) (pa_cons (pe_ix ix_tup (pv 0) pe_int (fun _ _ => rfl)) (pa_cons (pe_bltn (v := .ty "str") (u := .type "str") (by rfl) T.z_str (by decide +kernel) rfl) pa_nil)))))))) (pss_one (ps_ret (pe_ix ix_tup (pv 0) pe_int (fun _ _ => rfl)))) pss_nil)
      (pss_one (ps_ret pe_str))), ?_⟩
    refine ⟨_, rfl, _, _, _, _, _, rfl, .ty "tuple", hd.tyx, kit_tup d, _, rfl, ?_⟩
    cases hd with
    | @tup a xs ds h r =>
      refine iteT ⟨_, rfl, a, xs, rfl, .inr h, _, _, rfl, rfl, _, rfl, ?_⟩
      cases r with
      | nil => exact iteF q
      | @cons va _ da _ pa r2 =>
      rename_i vs ds
      rw [decide_eq_true (by show ((0 : Int) < ((vs.length + 1 : Nat) : Int)); omega)]
      refine iteT ⟨_, rfl, a, _, 0, va, rfl, rfl, h, atI_head, _, _, _, _, _, rfl, .ty "str", pa.tyx, kit_str da, _, rfl, ?_⟩
      cases pa with
      | str x => exact iteT ⟨_, rfl, a, _, 0, _, rfl, rfl, h, atI_head, q⟩
      | int i => exact q
      | bl b => exact q
      | non => exact q
      | tup h r => exact q
      | lst h r => exact q
    | int i => exact q
    | bl b => exact q
    | non => exact q
    | str x => exact q
    | lst h r => exact q
def specials : List Str := ["tid", "bid", "dim", "grid"]
def unaries : List Str := ["neg", "not", "zero"]
def foldings : List Str := ["add", "min", "max", "and", "or", "xor"]
def binaries : List Str := ["add", "sub", "mul", "div", "rem", "and", "or", "xor", "shl", "shr", "lt", "le", "eq", "ne", "min", "max"]
def choices (s : Str) : List Str := if s = "special" then specials else if s = "unary" then unaries else if s = "binary" then binaries else foldings
def sp_is_choice (K : PySem.W.Frag) : Sp := fun vs H Q _ => ∃ (s : Str) (v : V) (d : PyData), vs = [.str s, v] ∧ Dp K H v d ∧ fine d = true ∧ Q (.bl (oneOf (choices s) d)) H
theorem dec_str (s t : Str) : decide (V.str s = V.str t) = decide (s = t) := by
  by_cases h : s = t
  · rw [h, decide_eq_true rfl, decide_eq_true rfl]
  · rw [decide_eq_false h, decide_eq_false (fun e => h (V.str.inj e))]
theorem ok_is_choice (T : Tx w K mg) : FnOk P w K mg base CX0 1 T.a_is_choice T.d_is_choice ["sort", "value"] (sp_is_choice K) := by
  refine T.F_is_choice.ok sc_is_choice (fun vs H Q E h => ?_) (fun cdv A outer s H vs Q E hr h => ?_)
  · obtain ⟨v, d, x, rfl, _⟩ := h
    rfl
  · obtain ⟨v, x, d, rfl, hd, hs, q⟩ := h
    refine ⟨_, (pss_cons (ps_if (pt_cmpR op_eq (pv 0) pe_str (nomark _)) (pss_one (ps_ret (pe_cmpR (op_inT hr.units) (pv 1) (pe_gq (by rfl) T.q_SPECIALS) (by rfl)))) pss_nil)
      (pss_cons (ps_if (pt_cmpR op_eq (pv 0) pe_str (nomark _)) (pss_one (ps_ret (pe_cmpR (op_inT hr.units) (pv 1) (pe_gq (by rfl) T.q_UNARY) (by rfl)))) pss_nil)
      (pss_cons (ps_if (pt_cmpR op_eq (pv 0) pe_str (nomark _)) (pss_one (ps_ret (pe_cmpR (op_inT hr.units) (pv 1) (pe_gq (by rfl) T.q_BINARY) (by rfl)))) pss_nil)
      (pss_one (ps_ret (pe_cmpR (op_inT hr.units) (pv 1) (pe_gq (by rfl) T.q_FOLDING) (by rfl))))))), ?_⟩
    have fl := fine_lay _ hs
    refine ⟨_, rfl, rfl, _, rfl, ?_⟩
    rw [dec_str]
    by_cases h1 : v = "special"
    · rw [decide_eq_true h1]
      rw [show choices v = specials from if_pos h1] at q
      exact iteT ⟨_, rfl, rInT_strs specials hd (.tup (.inr T.t_SPECIALS) (DpAll.strs specials)) fl (by decide +kernel) q⟩
    rw [decide_eq_false h1]
    refine iteF ⟨_, rfl, rfl, _, rfl, ?_⟩
    rw [dec_str]
    by_cases h2 : v = "unary"
    · rw [decide_eq_true h2]
      rw [show choices v = unaries from (if_neg h1).trans (if_pos h2)] at q
      exact iteT ⟨_, rfl, rInT_strs unaries hd (.tup (.inr T.t_UNARY) (DpAll.strs unaries)) fl (by decide +kernel) q⟩
    rw [decide_eq_false h2]
    refine iteF ⟨_, rfl, rfl, _, rfl, ?_⟩
    rw [dec_str]
    by_cases h3 : v = "binary"
    · rw [decide_eq_true h3]
      rw [show choices v = binaries from (if_neg h1).trans ((if_neg h2).trans (if_pos h3))] at q
      exact iteT ⟨_, rfl, rInT_strs binaries hd (.tup (.inr T.t_BINARY) (DpAll.strs binaries)) fl (by decide +kernel) q⟩
    rw [decide_eq_false h3]
    rw [show choices v = foldings from (if_neg h1).trans ((if_neg h2).trans (if_neg h3))] at q
    exact iteF ⟨_, rfl, rInT_strs foldings hd (.tup (.inr T.t_FOLDING) (DpAll.strs foldings)) fl (by decide +kernel) q⟩
theorem paramD_shape {d : PyData} (h : paramD d = true) : ∃ x s, d = .tuple [.str x, .str s] := by
  unfold paramD at h
  split at h
  · next a b =>
    rw [Bool.and_eq_true] at h
    cases a with
    | str x =>
      cases b with
      | str s => exact ⟨x, s, rfl⟩
      | _ => exact absurd h.2 Bool.false_ne_true
    | _ => exact absurd h.1 Bool.false_ne_true
  · cases h
theorem sharedD_shape {d : PyData} (h : sharedD d = true) : ∃ x k, d = .tuple [.str x, .int k] := by
  unfold sharedD at h
  split at h
  · next a b =>
    rw [Bool.and_eq_true] at h
    cases a with
    | str x =>
      cases b with
      | int s => exact ⟨x, s, rfl⟩
      | _ => exact absurd h.2 Bool.false_ne_true
    | _ => exact absurd h.1 Bool.false_ne_true
  · cases h
/-! ### written forms of rows -/
def look : List (Str × List Str) → Str → Option (List Str)
  | [], _ => none
  | p :: r, z => if p.1 = z then some p.2 else look r z
inductive T2 (K : PySem.W.Frag) : List (Str × V) → List (Str × List Str) → Prop
  | nil : T2 K [] []
  | cons {k : Str} {p : Addr} {ss : List Str} {ps : List (Str × V)} {qs : List (Str × List Str)} : KTup K p (ss.map V.str) → T2 K ps qs → T2 K ((k, .ref p) :: ps) ((k, ss) :: qs)
theorem T2.at : ∀ {ps : List (Str × V)} {qs : List (Str × List Str)} (z : Str), T2 K ps qs → (look qs z = none ∧ tabGet ps z = none) ∨ ∃ ss p, look qs z = some ss ∧ tabGet ps z = some (.ref p) ∧ KTup K p (ss.map V.str)
  | _, _, z, .nil => .inl ⟨rfl, rfl⟩
  | _, _, z, .cons (k := k) (p := p) (ss := ss) (ps := ps) (qs := qs) h r => by
    by_cases e : k = z
    · exact .inr ⟨ss, p, if_pos e, if_pos e, h⟩
    · rcases T2.at z r with ⟨h1, h2⟩ | ⟨ss', p', h1, h2, h3⟩
      · exact .inl ⟨(if_neg e).trans h1, (if_neg e).trans h2⟩
      · exact .inr ⟨ss', p', (if_neg e).trans h1, (if_neg e).trans h2, h3⟩
theorem cut1 {n : Nat} (h : 1 ≤ n) : ¬ (HT.sIx n 0 (some (1 : Int)) = 0 ∧ HT.sIx n n none = n) := by
  rintro ⟨z, _⟩
  rw [show (1 : Int) = ((1 : Nat) : Int) from rfl, HT.sIx_nat] at z
  omega
theorem cutV1 (x : V) (xs : List V) : cutV (x :: xs) (some (1 : Int)) none = xs := by
  unfold cutV
  rw [show (1 : Int) = ((1 : Nat) : Int) from rfl, HT.sIx_nat, HT.sIx_none, List.length_cons, Nat.min_eq_left (by omega)]
  show List.take _ xs = xs
  exact List.take_of_length_le (by omega)
/-! ### heads -/
def namesOf (ps ss : List PyData) : List Str := (ps ++ ss).map firstD
def headD : PyData → PyData → Bool
  | .tuple ps, .tuple ss => decide (ps.length ≤ 6) && (decide (ss.length ≤ 3) && (ps.all paramD && (ss.all sharedD && decide (TX.nd (namesOf ps ss) (namesOf ps ss).length = (namesOf ps ss).length))))
  | _, _ => false
def sp_is_head (K : PySem.W.Frag) : Sp := fun vs H Q _ => ∃ (v1 v2 : V) (d1 d2 : PyData), vs = [v1, v2] ∧ Dp K H v1 d1 ∧ Dp K H v2 d2 ∧ fine d1 = true ∧ fine d2 = true ∧ ∀ H', Same H H' → Q (.bl (headD d1 d2)) H'
theorem headD_shape {p s : PyData} (h : headD p s = true) : ∃ ps ss, p = .tuple ps ∧ s = .tuple ss ∧ ps.length ≤ 6 ∧ ss.length ≤ 3 ∧ ps.all paramD = true ∧ ss.all sharedD = true := by
  unfold headD at h
  split at h
  · simp only [Bool.and_eq_true, decide_eq_true_eq] at h
    exact ⟨_, _, rfl, rfl, h.1, h.2.1, h.2.2.1, h.2.2.2.1⟩
  · cases h
theorem rCatA_dp {x y : V} {H : Hp} {Q : VK} {ps ss : List PyData} (h1 : Dp K H x (.tuple ps)) (h2 : Dp K H y (.tuple ss)) (hl : ps.length + ss.length ≤ sizeLine) (q : ∀ r H' zs, Same H H' → SqT K H' r zs → DpAll K H' zs (ps ++ ss) → Q (.ref r) H') : rCatA K x y H Q := by
  have app : ∀ {H : Hp} {vs us : List V} {ds es : List PyData}, DpAll K H vs ds → DpAll K H us es → DpAll K H (vs ++ us) (ds ++ es) := by
    intro H vs
    induction vs with
    | nil =>
      intro us ds es a b
      cases a
      exact b
    | cons v vs ih =>
      intro us ds es a b
      cases a with
      | cons a1 a2 => exact .cons a1 (ih a2 b)
  cases h1 with
  | @tup a xs _ ha ra =>
  cases h2 with
  | @tup b ys _ hb rb =>
  refine ⟨a, b, xs, ys, rfl, rfl, ha, hb, by rw [ra.len, rb.len]; exact hl, fun e => ?_, fun _ e => ?_, fun _ _ p np => ?_⟩
  · subst e
    cases ra
    exact q b H ys (.refl H) hb rb
  · subst e
    cases rb
    exact q a H xs (.refl H) ha (by rw [List.append_nil]; exact ra)
  · have s := same_new5 (o := .tup (xs ++ ys)) np
    exact q p _ _ s (SqT.of upd_same) (app (DpAll.same s ra) (DpAll.same s rb))
theorem headD_no1 {p s : PyData} (h : tupIn 0 6 p = false ∨ tupIn 0 3 s = false) : headD p s = false := by
  unfold headD
  split
  · next ps ss =>
    have e : ∀ (n : Nat) (k : Int) (xs : List PyData), k = (n : Int) → tupIn 0 k (.tuple xs) = decide (xs.length ≤ n) := by
      rintro n _ xs rfl
      show (decide ((0 : Int) ≤ (xs.length : Int)) && decide ((xs.length : Int) ≤ (n : Int))) = _
      rw [decide_eq_true (by omega), Bool.true_and]
      by_cases z : xs.length ≤ n
      · rw [decide_eq_true z, decide_eq_true (by omega)]
      · rw [decide_eq_false z, decide_eq_false (by omega)]
    rw [e 6 6 ps rfl, e 3 3 ss rfl] at h
    rcases h with h | h <;> simp [h]
  · rfl
theorem ok_is_head (T : Tx w K mg) : FnOk P w K mg base CX0 8 T.a_is_head T.d_is_head ["params", "shared"] (sp_is_head K) := by
  refine T.F_is_head.ok sc_is_head (fun vs H Q E h => ?_) (fun cdv A outer s H vs Q E hr h => ?_)
  · obtain ⟨v1, v2, d1, d2, rfl, _⟩ := h
    rfl
  · obtain ⟨v1, v2, d1, d2, rfl, hd1, hd2, f1, f2, q⟩ := h
    refine ⟨_, (pss_cons (ps_if (PW.pt (pw_or (pt_not (pt_val (pe_call (ok_is_tuple T) (hr.mono (by decide)) (by rfl) T.g_is_tuple T.F_is_tuple.kp T.b_is_tuple .nil pass0 (pa_cons (pv 0) (pa_cons pe_int (pa_cons (pe_gq (by rfl) T.q_MOST_PARAMS) pa_nil)))))) (pw_or1 (pt_not (pt_val (pe_call (ok_is_tuple T) (hr.mono (by decide)) (by rfl) T.g_is_tuple T.F_is_tuple.kp T.b_is_tuple .nil pass0 (pa_cons (pv 1) (pa_cons pe_int (pa_cons (pe_gq (by rfl) T.q_MOST_SHARED) pa_nil))))))))) (pss_one (ps_ret pe_bl)) pss_nil)
      (pss_cons (ps_if (pt_not (pt_val (pe_callB (cr_all rfl) (by rfl) T.z_all (by decide +kernel) (pa_cons (pe_lc (own := [("row", 3)]) (g := gName 3) (tt := tYes) rfl sc_is_head.nd (pi_tup (pv 0)) (blkOk_by (N := ["params", "shared", "names", "row"]) (sc := defScope s_is_head) (by decide +kernel)) (fun _ _ _ _ _ => (pg_name (i := 3) sc_is_head.nd rfl (.inl rfl))) (fun _ _ _ _ _ => pts_nil) (fun _ _ _ _ _ => (pe_call (ok_is_param T) (hr.mono (by decide)) (by rfl) T.g_is_param T.F_is_param.kp T.b_is_param .nil pass0 (pa_cons (pv 3) pa_nil)))) pa_nil)))) (pss_one (ps_ret pe_bl)) pss_nil)
      (pss_cons (ps_if (pt_not (pt_val (pe_callB (cr_all rfl) (by rfl) T.z_all (by decide +kernel) (pa_cons (pe_lc (own := [("row", 3)]) (g := gName 3) (tt := tYes) rfl sc_is_head.nd (pi_tup (pv 1)) (blkOk_by (N := ["params", "shared", "names", "row"]) (sc := defScope s_is_head) (by decide +kernel)) (fun _ _ _ _ _ => (pg_name (i := 3) sc_is_head.nd rfl (.inl rfl))) (fun _ _ _ _ _ => pts_nil) (fun _ _ _ _ _ => (pe_call (ok_is_shared_array T) (hr.mono (by decide)) (by rfl) T.g_is_shared_array T.F_is_shared_array.kp T.b_is_shared_array .nil pass0 (pa_cons (pv 3) pa_nil)))) pa_nil)))) (pss_one (ps_ret pe_bl)) pss_nil)
      (pss_cons (ps_setLc (i := 2) (own := [("row", 3)]) (g := gName 3) (tt := tYes) rfl sc_is_head.nd rfl rfl (sw_true rfl rfl rfl (by decide +kernel)) (pi_tup (pe_op op_catA (pv 0) (pv 1))) (blkOk_by (N := ["params", "shared", "names", "row"]) (sc := defScope s_is_head) (by decide +kernel)) (fun _ _ _ _ _ => (pg_name (i := 3) sc_is_head.nd rfl (.inl rfl))) (fun _ _ _ _ _ => pts_nil) (fun _ _ _ _ _ => (pe_ix (show IxR _ (rIxT K) from ix_tup) (pv 3) pe_int (fun _ _ => rfl))))
      (pss_one (ps_ret (pe_cmpR op_eq (pe_lenTx (by rfl) T.z_len (by rfl) T.z_set (pv 2)) (pe_callB call_len_seq (by rfl) T.z_len (by decide +kernel) (pa_cons (pv 2) pa_nil)) (nomark _)))))))), ?_⟩
    refine ⟨_, rfl, v1, d1, 0, 6, rfl, hd1, _, rfl, ?_⟩
    by_cases ht : tupIn 0 6 d1 = true
    · rw [ht]
      refine iteF ⟨_, rfl, v2, d2, 0, 3, rfl, hd2, _, rfl, ?_⟩
      by_cases ht2 : tupIn 0 3 d2 = true
      · rw [ht2]
        obtain ⟨ps, rfl⟩ : ∃ ps, d1 = .tuple ps := by cases d1 <;> first | exact ⟨_, rfl⟩ | cases ht
        obtain ⟨ss, rfl⟩ : ∃ ps, d2 = .tuple ps := by cases d2 <;> first | exact ⟨_, rfl⟩ | cases ht2
        cases hd1 with
        | @tup a1 vs1 _ h1 r1 =>
        cases hd2 with
        | @tup a2 vs2 _ h2 r2 =>
        have l6 : ps.length ≤ 6 := by
          replace ht : (decide ((0 : Int) ≤ (ps.length : Int)) && decide ((ps.length : Int) ≤ 6)) = true := ht
          rw [Bool.and_eq_true] at ht
          have := of_decide_eq_true ht.2
          omega
        have l3 : ss.length ≤ 3 := by
          replace ht2 : (decide ((0 : Int) ≤ (ss.length : Int)) && decide ((ss.length : Int) ≤ 3)) = true := ht2
          rw [Bool.and_eq_true] at ht2
          have := of_decide_eq_true ht2.2
          omega
        have eh : headD (.tuple ps) (.tuple ss) = (ps.all paramD && (ss.all sharedD && decide (TX.nd (namesOf ps ss) (namesOf ps ss).length = (namesOf ps ss).length))) := by
          show (decide (ps.length ≤ 6) && (decide (ss.length ≤ 3) && _)) = _
          rw [decide_eq_true l6, decide_eq_true l3, Bool.true_and, Bool.true_and]
        rw [eh] at q
        have g1 := fine_tup f1
        have g2 := fine_tup f2
        refine iteF ⟨_, rfl, a1, rfl, ⟨_, h1⟩, fun D nD => lc_tup (K := K) (a := a1) (xs := vs1) (fun i H' => H' D = some (.lst ((ps.take i).map fun d => V.bl (paramD d))) ∧ Same H H') ⟨upd_same, fun c o e => by rw [upd_ne (ne_of_none e nD)]; exact e⟩ (fun i H' _ ⟨_, e⟩ => Same.sqt e h1) ?_ ?_⟩
        · rintro i x H1 hx ⟨eD, sm⟩
          obtain ⟨d, ed, pd⟩ := r1.get hx
          have hi2 : i < ps.length := (List.getElem?_eq_some_iff.mp ed).1
          refine ⟨rfl, _, rfl, x, d, rfl, pd.same sm, fineAll_mem g1 (List.mem_of_getElem? ed), fun H2 s2 => ⟨_, s2 _ _ eD, ?_, ?_, fun c o e => ?_⟩⟩
          · rw [List.length_map]; exact small1000 (by rw [List.length_take]; omega)
          · rw [upd_same, bools_snoc ed]
          · rw [upd_ne (ne_of_none e nD)]; exact s2 _ _ (sm _ _ e)
        rintro H1 ⟨eD, sm⟩
        rw [r1.len, List.take_length] at eD
        refine ⟨D, ps.map paramD, rfl, SqL.of (by rw [List.map_map]; exact eD), _, rfl, ?_⟩
        rw [all_bools]
        by_cases hp : ps.all paramD = true
        · rw [hp, Bool.true_and] at q
          rw [hp]
          refine iteF ⟨_, rfl, a2, rfl, ⟨_, Same.sqt sm h2⟩, fun D2 nD2 => lc_tup (K := K) (a := a2) (xs := vs2) (fun i H' => H' D2 = some (.lst ((ss.take i).map fun d => V.bl (sharedD d))) ∧ Same H1 H') ⟨upd_same, fun c o e => by rw [upd_ne (ne_of_none e nD2)]; exact e⟩ (fun i H' _ ⟨_, e⟩ => Same.sqt (sm.trans e) h2) ?_ ?_⟩
          · rintro i x H2 hx ⟨eD2, sm2⟩
            obtain ⟨d, ed, pd⟩ := r2.get hx
            have hi2 : i < ss.length := (List.getElem?_eq_some_iff.mp ed).1
            refine ⟨rfl, _, rfl, x, d, rfl, pd.same (sm.trans sm2), fineAll_mem g2 (List.mem_of_getElem? ed), fun H3 s3 => ⟨_, s3 _ _ eD2, ?_, ?_, fun c o e => ?_⟩⟩
            · rw [List.length_map]; exact small1000 (by rw [List.length_take]; omega)
            · rw [upd_same, bools_snoc ed]
            · rw [upd_ne (ne_of_none e nD2)]; exact s3 _ _ (sm2 _ _ e)
          rintro H2 ⟨eD2, sm2⟩
          rw [r2.len, List.take_length] at eD2
          refine ⟨D2, ss.map sharedD, rfl, SqL.of (by rw [List.map_map]; exact eD2), _, rfl, ?_⟩
          rw [all_bools]
          have s12 := sm.trans sm2
          by_cases hsd : ss.all sharedD = true
          · rw [hsd, Bool.true_and] at q
            rw [hsd]
            refine iteF ⟨_, rfl, _, rfl, rCatA_dp (ps := ps) (ss := ss) (.tup (Same.sqt s12 h1) (DpAll.same s12 r1)) (.tup (Same.sqt s12 h2) (DpAll.same s12 r2)) (small1000 (by omega) |> Nat.le_of_lt) (fun r H3 zs s3 hz rz => ⟨r, rfl, ⟨_, hz⟩, fun D3 nD3 => ?_⟩)⟩
            have rowsN : ∀ (i : Nat) (d : PyData), (ps ++ ss)[i]? = some d → ∃ x rest, d = .tuple (.str x :: rest) := by
              intro i d hd
              rcases List.mem_append.mp (List.mem_of_getElem? hd) with m | m
              · obtain ⟨x, s, rfl⟩ := paramD_shape (List.all_eq_true.mp hp _ m)
                exact ⟨x, _, rfl⟩
              · obtain ⟨x, s, rfl⟩ := sharedD_shape (List.all_eq_true.mp hsd _ m)
                exact ⟨x, _, rfl⟩
            refine lc_tup (K := K) (a := r) (xs := zs) (fun i H' => H' D3 = some (.lst ((((ps ++ ss).take i).map firstD).map V.str)) ∧ Same H3 H') ⟨upd_same, fun c o e => by rw [upd_ne (ne_of_none e nD3)]; exact e⟩ (fun i H' _ ⟨_, e⟩ => Same.sqt e hz) ?_ ?_
            · rintro i x H4 hx ⟨eD3, sm3⟩
              obtain ⟨d, ed, pd⟩ := rz.get hx
              have hi2 : i < (ps ++ ss).length := (List.getElem?_eq_some_iff.mp ed).1
              obtain ⟨z, rest, rfl⟩ := rowsN i d ed
              replace pd := pd.same sm3
              cases pd with
              | @tup b zs2 _ hb rb =>
              cases rb with
              | cons c1 c2 =>
              cases c1
              refine ⟨rfl, _, rfl, b, _, 0, .str z, rfl, rfl, hb, atI_head, _, eD3, ?_, ?_, fun c o e => ?_⟩
              · rw [List.length_map, List.length_map]; exact small1000 (by rw [List.length_take]; rw [List.length_append] at hi2; omega)
              · rw [upd_same, List.take_add_one, ed, List.map_append, List.map_append]
                rfl
              · rw [upd_ne (ne_of_none e nD3)]; exact sm3 _ _ e
            rintro H4 ⟨eD3, sm3⟩
            rw [rz.len, List.take_length] at eD3
            have eD4 : H4 D3 = some (.lst ((namesOf ps ss).map V.str)) := eD3
            have ln : (namesOf ps ss).length ≤ 9 := by
              unfold namesOf
              rw [List.length_map, List.length_append]
              omega
            refine ⟨_, rfl, D3, namesOf ps ss, rfl, SqL.of eD4, by omega, _, rfl, D3, _, rfl, .inl (SqL.of eD4), rfl, ?_⟩
            have ee : decide (V.int ((TX.nd (namesOf ps ss) (namesOf ps ss).length : Nat) : Int) = V.int ((((namesOf ps ss).map V.str).length : Nat) : Int)) = decide (TX.nd (namesOf ps ss) (namesOf ps ss).length = (namesOf ps ss).length) := by
              rw [List.length_map]
              by_cases z : TX.nd (namesOf ps ss) (namesOf ps ss).length = (namesOf ps ss).length
              · rw [decide_eq_true z, z, decide_eq_true rfl]
              · rw [decide_eq_false z, decide_eq_false (fun y => z (by have := V.int.inj y; omega))]
            rw [ee]
            exact q _ (s12.trans (s3.trans sm3))
          · rw [Bool.eq_false_iff.mpr hsd, Bool.false_and] at q
            rw [Bool.eq_false_iff.mpr hsd]
            exact iteT (q _ s12)
        · rw [Bool.eq_false_iff.mpr hp, Bool.false_and] at q
          rw [Bool.eq_false_iff.mpr hp]
          exact iteT (q _ sm)
      · rw [Bool.eq_false_iff.mpr ht2]
        rw [headD_no1 (.inr (Bool.eq_false_iff.mpr ht2))] at q
        exact iteT (q _ (.refl H))
    · rw [Bool.eq_false_iff.mpr ht]
      rw [headD_no1 (.inl (Bool.eq_false_iff.mpr ht))] at q
      exact iteT (q _ (.refl H))
/-! ### get with a default, of a written table -/
end
end D8
namespace L2
open PySem PySem.Spec PyProof.Rows
def tKGet2 (K : PySem.W.Frag) (w : World) (td ty tx : TE) : TE := fun σ H Q => td σ H fun x H1 => ∃ a ps, x = .ref a ∧ KTab K w a ps ∧ ty σ H1 fun y H2 => ∃ z, y = .str z ∧ tx σ H2 fun d H3 => Q ((tabGet ps z).getD d) H3
section
variable {X : Cx} {o e f : Expr} {apos cpos : Pos} {td ty tx : TE}
theorem pe_kget2 (ho : PE X o td) (he : PE X e ty) (hf : PE X f tx) (m : M2 X o "get" apos e f cpos) : PE X (.Call (.Attribute o "get" apos) [e, f] [] cpos) (tKGet2 X.K X.w td ty tx) := by
  refine ⟨fun pins s σ H Q I h => ?_⟩
  refine wpAny_Call_method m.base m.few m.line PySem.F.plainAttrs_dict PySem.F.slot_dict_get PySem.F.type_dict_get (thn (ho.run pins s σ H _ I h) fun u s1 ⟨x, H1, I1, rx, a, ps, ex, ⟨es, n, hl, hk, hd, hrw⟩, q1⟩ => ?_)
  subst ex
  obtain rfl : u = Value.ref a := rx
  have t1 := (PySem.W.mapOf_K (prog := X.prog) (w := X.w) I1.kIn hl hk).typeIs
  refine ⟨t1, fun b hb => by cases hb; exact ⟨_, I1.kIn _ _ hl, rfl⟩, ?_⟩
  rw [m.trees]
  refine Calls.callWith_builtin rfl (Calls.evalArgs_plain (Calls.spliced_cons (thn (he.run pins s1 σ H1 _ I1 q1) fun iv s2 ⟨y, H2, I2, ry, z, ez, q2⟩ => Calls.spliced_cons (thn (hf.run pins s2 σ H2 _ I2 q2) fun dv s3 ⟨d, H3, I3, rd, q3⟩ => Calls.spliced_nil ?_))))
  subst ez
  obtain ⟨t, rfl⟩ := ry
  have hm := PySem.W.mapOf_K (prog := X.prog) (w := X.w) I3.kIn hl hk
  refine call_meetsIn PySem.F.slot_dict_get hm.typeIs PySem.F.entry_dict_get (PySem.F.args_dict_get_3 _ _ _) (meets_dict_get_default (strKind X.prog X.w) a (PySem.strKind_is X.prog X.w z t) hd dv) ⟨_, hm, ?_⟩
  rcases tabGet_rows z hrw with ⟨en, v, h1, h2, h3⟩ | ⟨h1, h2, h3⟩
  · have ns : PySem.W.nsIn X.K a z = some (some en.val) := by
      unfold PySem.W.nsIn
      rw [hl]
      dsimp only
      rw [h1]
    rw [PySem.W.find_K hl ns]
    rw [h2] at q3
    exact ⟨v, H3, I3.tok _, h3, q3⟩
  · have ns : PySem.W.nsIn X.K a z = some none := by
      unfold PySem.W.nsIn
      rw [hl]
      dsimp only
      rw [h1]
      dsimp only
      rw [h3]
      rfl
    rw [PySem.W.find_K hl ns]
    rw [h2] at q3
    exact ⟨d, H3, I3.tok _, rd, q3⟩
end
/-- a comprehension over zip of two tuples of one length -/
theorem lc_zipT {K : PySem.W.Frag} {a b : Addr} {xs ys : List V} {g : TG} {tt : TT} {te : TE} {vs : List Nat} {σ : St} {H1 : Hp} {D : Addr} {Qd : Hp → Prop} (hl : xs.length = ys.length) (Pv : Nat → Hp → Prop) (h0 : Pv 0 (upd H1 D (.lst []))) (hq : ∀ i H, Pv i H → SqT K H a xs ∧ SqT K H b ys)
    (hs : ∀ i x y T H, xs[i]? = some x → ys[i]? = some y → Pv i H → H T = none → g (.ref T) (wipe σ vs) (upd H T (.tup [x, y])) fun σ2 H2 => wipe σ2 vs = wipe σ vs ∧ tt σ2 H2 fun b H3 =>
      if b = true then te σ2 H3 fun y H4 => ∃ acc, H4 D = some (.lst acc) ∧ acc.length < sizeLine ∧ Pv (i + 1) (upd H4 D (.lst (acc ++ [y]))) else Pv (i + 1) H3) (hd : ∀ H, Pv xs.length H → Qd H) :
    ∃ W : Nat → Nat → Hp → Prop, (∃ m, W 0 m (upd H1 D (.lst []))) ∧ ∀ i m H, W i m H →
      ((RZ.ItzT K a b).stop i H ∧ Qd H) ∨ ((RZ.ItzT K a b).go i H ∧ ∃ Nx : Hp → Prop, (∀ H', Nx H' → ∃ m', m' < m ∧ W (i + 1) m' H') ∧ ∀ x H', (RZ.ItzT K a b).yld i H x H' → g x (wipe σ vs) H' fun σ2 H2 => wipe σ2 vs = wipe σ vs ∧ tt σ2 H2 fun b H3 =>
        if b = true then te σ2 H3 fun y H4 => ∃ acc, H4 D = some (.lst acc) ∧ acc.length < sizeLine ∧ Nx (upd H4 D (.lst (acc ++ [y]))) else Nx H3) := by
  refine ⟨fun i m H => m = xs.length - i ∧ i ≤ xs.length ∧ Pv i H, ⟨xs.length, by simp, Nat.zero_le _, h0⟩, ?_⟩
  rintro i m H ⟨rfl, hi, p⟩
  obtain ⟨qx, qy⟩ := hq i H p
  by_cases hlt : i < xs.length
  · have hx : xs[i]? = some xs[i] := List.getElem?_eq_getElem hlt
    have hlt2 : i < ys.length := by omega
    have hy : ys[i]? = some ys[i] := List.getElem?_eq_getElem hlt2
    refine .inr ⟨⟨xs, ys, _, _, qx, qy, hx, hy⟩, Pv (i + 1), fun H' p' => ⟨xs.length - (i + 1), by omega, rfl, hlt, p'⟩, fun v H' y => ?_⟩
    obtain ⟨T, x', y', rfl, hT, rfl, f1, f2⟩ := y
    exact hs i x' y' T H (f1 xs qx) (f2 ys qy) p hT
  · have e : i = xs.length := by omega
    subst e
    exact .inl ⟨⟨xs, ys, qx, qy, Or.inl (Nat.le_refl _)⟩, hd H p⟩
end L2
namespace D8
open PySem PySem.Spec PyProof.Rows L2
section
variable {P : Program} {w : World} {K : PySem.W.Frag} {mg : Str → Option Value} {base : Heap}
set_option hygiene false
local macro_rules | `(tactic| walk_at "mem") => `(tactic| (repeat (first | exact List.Mem.head _ | refine List.Mem.tail _ ?_)))
local macro_rules | `(tactic| walk_at "one") => `(tactic| first | exact Dt.int _ | exact Dt.str _ | exact Dt.bl _ | exact Dt.non | exact S.get (by walk_at "mem") | exact S.list (by walk_at "mem") (by simp))
local macro_rules | `(tactic| walk_at "has") => `(tactic| first | exact DtAll.nil | exact DtAll.cons (by walk_at "one") (by walk_at "has"))
local macro_rules | `(tactic| walk_at "size") => `(tactic| first | exact Nat.zero_le _ | exact Nat.le_of_lt (small1000 (Nat.le_of_ble_eq_true rfl)))
local macro_rules | `(tactic| walk_at "obj") => `(tactic| (refine ⟨by walk_at "size", fun t n => ?_⟩; generalize hx : L2.upd _ t _ = Hc; (first | replace S := S.tup' n hx (by walk_at "has") | replace S := S.lst' n hx (by walk_at "has")); clear n hx))
local macro_rules | `(tactic| walk_at "cat") => `(tactic| (refine ⟨_, _, _, _, rfl, rfl, (S.getL (by walk_at "mem")).1, (S.getL (by walk_at "mem")).1, S.catSize (by walk_at "mem") (by walk_at "mem") (Nat.le_of_ble_eq_true rfl), fun t n => ?_⟩; generalize hx : L2.upd _ t _ = Hc; replace S := S.lst' n hx (DtAll.app (S.getL (by walk_at "mem")).2 (S.getL (by walk_at "mem")).2); dsimp only [List.cons_append, List.nil_append] at S; clear n hx))
local macro_rules | `(tactic| walk_at "draw") => `(tactic| (refine ⟨_, _, _, rfl, S.str, (by first | decide | omega), (by first | decide | omega), fun u Hc u0 u1 b s => ?_⟩; replace S := S.draw b s; clear b s))
local macro_rules | `(tactic| walk_at "pick") => `(tactic| (obtain ⟨v, e, h2, h3, h4, h5⟩ := DtAll.pick (S.getL (a := t) (by walk_at "mem")).2 u0 (by first | exact u1 | omega); refine ⟨_, _, _, _, rfl, rfl, SqL.of (S.getL (a := t) (by walk_at "mem")).1, h2, ?_⟩; replace S := S.put h5; clear h2 h3 h5 u0 u1))
local macro_rules | `(tactic| walk_at "go") => `(tactic| repeat (first | refine ⟨_, rfl, ?_⟩ | walk_at "obj" | walk_at "cat"))
set_option hygiene true
set_option hygiene false
local macro_rules | `(tactic| walk_at "trim") => `(tactic| exact S.sub (fun x hx => by (repeat (first | exact hx | refine List.Mem.tail _ ?_))) (by (repeat (first | exact List.Sublist.refl _ | refine List.Sublist.cons _ ?_))))
set_option hygiene true
set_option hygiene false
local macro_rules | `(tactic| walk_at "eqs") => `(tactic| first | refine iteN (by decide +kernel) ?_ | refine iteY (by decide +kernel) ?_)
local macro_rules | `(tactic| walk_at "test") => `(tactic| first | (refine ⟨_, rfl, rfl, _, rfl, iteN (by decide +kernel) ?_⟩) | (refine ⟨_, rfl, rfl, _, rfl, iteY (by decide +kernel) ?_⟩))
local macro_rules | `(tactic| walk_at "kind") => `(tactic| (refine ⟨_, rfl, _, _, _, _, rfl, rfl, sq, rfl, ?_⟩))
local macro_rules | `(tactic| walk_at "tix") => `(tactic| first | (refine ⟨_, rfl, _, _, _, _, rfl, rfl, sq, rfl, rfl, _, rfl, iteN (by decide +kernel) ?_⟩) | (refine ⟨_, rfl, _, _, _, _, rfl, rfl, sq, rfl, rfl, _, rfl, iteY (by decide +kernel) ?_⟩))
local macro_rules | `(tactic| walk_at "trim1") => `(tactic| exact S.sub (fun x hx => by (rcases List.mem_cons.mp hx with rfl | hx; (exact List.Mem.head _); (repeat (first | exact hx | refine List.Mem.tail _ ?_)))) (List.Sublist.refl _))
set_option hygiene true
/-! ### codes: what the program takes as one -/
def kindAt (ps : List PyData) (k : Str) : PyData → Bool
  | .int i => match atI ps i with
    | some (.tuple [_, .str s]) => decide (s = k)
    | _ => false
  | _ => false
def ipD (ps : List PyData) (d : PyData) : Bool := numIn 0 ((ps.length : Int) - 1) d && kindAt ps "int" d
def arrD (ps ss : List PyData) (d : PyData) : Bool := numIn 6 (6 + (ss.length : Int) - 1) d || (numIn 0 ((ps.length : Int) - 1) d && kindAt ps "buffer" d)
theorem numIn_int {lo hi : Int} {d : PyData} (h : numIn lo hi d = true) : ∃ i : Int, d = .int i ∧ lo ≤ i ∧ i ≤ hi := by
  cases d with
  | int i =>
    have h' := Bool.and_eq_true_iff.mp (show (decide (lo ≤ i) && decide (i ≤ hi)) = true from h)
    exact ⟨i, rfl, of_decide_eq_true h'.1, of_decide_eq_true h'.2⟩
  | _ => cases h
theorem param_at {H : Hp} {xs : List V} {ps : List PyData} (r : DpAll K H xs ps) (hp : ps.all paramD = true) {i : Int} (h0 : 0 ≤ i) (h1 : i ≤ (ps.length : Int) - 1) :
    ∃ (v : V) (b : Addr) (x s : Str), atI xs i = some v ∧ v = .ref b ∧ SqT K H b [.str x, .str s] ∧ ∀ k, kindAt ps k (.int i) = decide (s = k) := by
  obtain ⟨n, rfl⟩ : ∃ n : Nat, i = (n : Int) := ⟨i.toNat, by omega⟩
  have hn : n < ps.length := by omega
  have e : ps[n]? = some ps[n] := List.getElem?_eq_getElem hn
  obtain ⟨v, hv, dv⟩ := r.at e
  obtain ⟨x, s, es⟩ := paramD_shape (List.all_eq_true.mp hp _ (List.getElem_mem hn))
  rw [es] at e dv
  obtain ⟨b, rfl, hb⟩ := Dp.flat dv rfl
  refine ⟨_, b, x, s, atI_nat hv, rfl, hb, fun k => ?_⟩
  show (match atI ps (n : Int) with | some (.tuple [_, .str s]) => decide (s = k) | _ => false) = _
  rw [atI_nat e]
def sp_is_array (K : PySem.W.Frag) : Sp := fun vs H Q _ => ∃ (p s v : V) (ps ss : List PyData) (d : PyData), vs = [p, s, v] ∧ Dp K H p (.tuple ps) ∧ Dp K H s (.tuple ss) ∧ Dp K H v d ∧ ps.all paramD = true ∧ Q (.bl (arrD ps ss d)) H
theorem ok_is_array (T : Tx w K mg) : FnOk P w K mg base CX0 2 T.a_is_array T.d_is_array ["params", "shared", "value"] (sp_is_array K) := by
  refine T.F_is_array.ok sc_is_array (fun vs H Q E h => ?_) (fun cdv A outer s H vs Q E hr h => ?_)
  · obtain ⟨p, s, v, ps, ss, d, rfl, _⟩ := h
    rfl
  · obtain ⟨p, s, v, ps, ss, d, rfl, dp, ds, dv, hp, q⟩ := h
    refine ⟨_, (pss_cons (ps_if (pt_val (pe_call (ok_is_between T) (hr.mono (by decide)) (by rfl) T.g_is_between T.F_is_between.kp T.b_is_between .nil pass0 (pa_cons (pv 2) (pa_cons (pe_gq (by rfl) T.q_FIRST_SHARED) (pa_cons (pe_op op_sub (pe_op op_add (pe_gq (by rfl) T.q_FIRST_SHARED) (pe_callB call_len_seq (by rfl) T.z_len (by decide +kernel) (pa_cons (pv 1) pa_nil))) pe_int) pa_nil))))) (pss_one (ps_ret pe_bl)) pss_nil)
      (pss_one (ps_ret (pe_and (pe_call (ok_is_between T) (hr.mono (by decide)) (by rfl) T.g_is_between T.F_is_between.kp T.b_is_between .nil pass0 (pa_cons (pv 2) (pa_cons pe_int (pa_cons (pe_op op_sub (pe_callB call_len_seq (by rfl) T.z_len (by decide +kernel) (pa_cons (pv 0) pa_nil)) pe_int) pa_nil)))) (pe_one (pe_cmpR op_eq (pe_ix ix_tup (pe_ix ix_tup (pv 0) (pv 2) (fun _ _ => rfl)) pe_int (fun _ _ => rfl)) pe_str (nomark _))))))), ?_⟩
    obtain ⟨a1, xs, rfl, h1, r1⟩ := Dp.tupInv' dp
    obtain ⟨a2, ys, rfl, h2, r2⟩ := Dp.tupInv' ds
    refine ⟨_, rfl, _, rfl, a2, ys, rfl, .inr h2, _, _, rfl, rfl, _, _, rfl, rfl, v, d, 6, _, rfl, dv, _, rfl, ?_⟩
    rw [r2.len]
    have e : arrD ps ss d = (numIn 6 (6 + (ss.length : Int) - 1) d || (numIn 0 ((ps.length : Int) - 1) d && kindAt ps "buffer" d)) := rfl
    rw [e] at q
    cases z : numIn 6 (6 + (ss.length : Int) - 1) d with
    | true =>
      rw [z, Bool.true_or] at q
      exact iteT q
    | false =>
      rw [z, Bool.false_or] at q
      refine iteF ⟨_, rfl, _, rfl, a1, xs, rfl, .inr h1, _, _, rfl, rfl, v, d, 0, _, rfl, dv, ?_⟩
      rw [r1.len]
      cases z2 : numIn 0 ((ps.length : Int) - 1) d with
      | false =>
        rw [z2, Bool.false_and] at q
        exact ⟨_, rfl, iteF q⟩
      | true =>
        rw [z2, Bool.true_and] at q
        obtain ⟨i, rfl, i0, i1⟩ := numIn_int z2
        cases Dp.intInv' dv
        obtain ⟨v, b, x, k, e1, rfl, hb, hk⟩ := param_at r1 hp i0 i1
        rw [hk] at q
        refine ⟨_, rfl, iteT ⟨_, rfl, _, rfl, _, _, _, _, rfl, rfl, h1, e1, _, _, _, _, rfl, rfl, hb, rfl, rfl, ?_⟩⟩
        rw [dec_str]
        exact q
def sp_is_int_param (K : PySem.W.Frag) : Sp := fun vs H Q _ => ∃ (p v : V) (ps : List PyData) (d : PyData), vs = [p, v] ∧ Dp K H p (.tuple ps) ∧ Dp K H v d ∧ ps.all paramD = true ∧ Q (.bl (ipD ps d)) H
theorem ok_is_int_param (T : Tx w K mg) : FnOk P w K mg base CX0 2 T.a_is_int_param T.d_is_int_param ["params", "value"] (sp_is_int_param K) := by
  refine T.F_is_int_param.ok sc_is_int_param (fun vs H Q E h => ?_) (fun cdv A outer s H vs Q E hr h => ?_)
  · obtain ⟨p, v, ps, d, rfl, _⟩ := h
    rfl
  · obtain ⟨p, v, ps, d, rfl, dp, dv, hp, q⟩ := h
    refine ⟨_, (pss_one (ps_ret (pe_and (pe_call (ok_is_between T) (hr.mono (by decide)) (by rfl) T.g_is_between T.F_is_between.kp T.b_is_between .nil pass0 (pa_cons (pv 1) (pa_cons pe_int (pa_cons (pe_op op_sub (pe_callB call_len_seq (by rfl) T.z_len (by decide +kernel) (pa_cons (pv 0) pa_nil)) pe_int) pa_nil)))) (pe_one (pe_cmpR op_eq (pe_ix ix_tup (pe_ix ix_tup (pv 0) (pv 1) (fun _ _ => rfl)) pe_int (fun _ _ => rfl)) pe_str (nomark _)))))), ?_⟩
    obtain ⟨a1, xs, rfl, h1, r1⟩ := Dp.tupInv' dp
    refine ⟨_, rfl, _, rfl, a1, xs, rfl, .inr h1, _, _, rfl, rfl, v, d, 0, _, rfl, dv, ?_⟩
    rw [r1.len]
    have e : ipD ps d = (numIn 0 ((ps.length : Int) - 1) d && kindAt ps "int" d) := rfl
    rw [e] at q
    cases z2 : numIn 0 ((ps.length : Int) - 1) d with
    | false =>
      rw [z2, Bool.false_and] at q
      exact ⟨_, rfl, iteF q⟩
    | true =>
      rw [z2, Bool.true_and] at q
      obtain ⟨i, rfl, i0, i1⟩ := numIn_int z2
      cases Dp.intInv' dv
      obtain ⟨v, b, x, k, e1, rfl, hb, hk⟩ := param_at r1 hp i0 i1
      rw [hk] at q
      refine ⟨_, rfl, iteT ⟨_, rfl, _, rfl, _, _, _, _, rfl, rfl, h1, e1, _, _, _, _, rfl, rfl, hb, rfl, rfl, ?_⟩⟩
      rw [dec_str]
      exact q
def commonD (ps ss : List PyData) (x : Str) (d : PyData) : Bool :=
  if x = "word" then wordD d else if x = "param" then ipD ps d else if x = "array" then arrD ps ss d else if x = "number" then numIn 0 99 d else oneOf (choices x) d
def sp_is_common_part (K : PySem.W.Frag) : Sp := fun vs H Q _ => ∃ (p t v : V) (x : Str) (ps ss : List PyData) (d : PyData), vs = [p, t, .str x, v] ∧ Dp K H p (.tuple ps) ∧ Dp K H t (.tuple ss) ∧ Dp K H v d ∧ ps.all paramD = true ∧ fine d = true ∧ ∀ H', Same H H' → Q (.bl (commonD ps ss x d)) H'
theorem ok_is_common_part (T : Tx w K mg) : FnOk P w K mg base CX0 4 T.a_is_common_part T.d_is_common_part ["params", "shared", "sort", "value"] (sp_is_common_part K) := by
  refine T.F_is_common_part.ok sc_is_common_part (fun vs H Q E h => ?_) (fun cdv A outer s H vs Q E hr h => ?_)
  · obtain ⟨p, t, v, x, ps, ss, d, rfl, _⟩ := h
    rfl
  · obtain ⟨p, t, v, x, ps, ss, d, rfl, dp, ds, dv, hp, fd, q⟩ := h
    refine ⟨_, (pss_cons (ps_if (pt_cmpR op_eq (pv 2) pe_str (nomark _)) (pss_one (ps_ret (pe_call (ok_is_word T) (hr.mono (by decide)) (by rfl) T.g_is_word T.F_is_word.kp T.b_is_word .nil pass0 (pa_cons (pv 3) pa_nil)))) pss_nil)
      (pss_cons (ps_if (pt_cmpR op_eq (pv 2) pe_str (nomark _)) (pss_one (ps_ret (pe_call (ok_is_int_param T) (hr.mono (by decide)) (by rfl) T.g_is_int_param T.F_is_int_param.kp T.b_is_int_param .nil pass0 (pa_cons (pv 0) (pa_cons (pv 3) pa_nil))))) pss_nil)
      (pss_cons (ps_if (pt_cmpR op_eq (pv 2) pe_str (nomark _)) (pss_one (ps_ret (pe_call (ok_is_array T) (hr.mono (by decide)) (by rfl) T.g_is_array T.F_is_array.kp T.b_is_array .nil pass0 (pa_cons (pv 0) (pa_cons (pv 1) (pa_cons (pv 3) pa_nil)))))) pss_nil)
      (pss_cons (ps_if (pt_cmpR op_eq (pv 2) pe_str (nomark _)) (pss_one (ps_ret (pe_call (ok_is_between T) (hr.mono (by decide)) (by rfl) T.g_is_between T.F_is_between.kp T.b_is_between .nil pass0 (pa_cons (pv 3) (pa_cons pe_int (pa_cons (pe_gq (by rfl) T.q_MOST_NUMBER) pa_nil)))))) pss_nil)
      (pss_one (ps_ret (pe_call (ok_is_choice T) (hr.mono (by decide)) (by rfl) T.g_is_choice T.F_is_choice.kp T.b_is_choice .nil pass0 (pa_cons (pv 2) (pa_cons (pv 3) pa_nil))))))))), ?_⟩
    refine ⟨_, rfl, rfl, _, rfl, ?_⟩
    rw [dec_str]
    by_cases h1 : x = "word"
    · rw [decide_eq_true h1]
      rw [show commonD ps ss x d = wordD d from if_pos h1] at q
      exact iteT ⟨_, rfl, v, d, rfl, dv, q⟩
    rw [decide_eq_false h1]
    refine iteF ⟨_, rfl, rfl, _, rfl, ?_⟩
    rw [dec_str]
    by_cases h2 : x = "param"
    · rw [decide_eq_true h2]
      rw [show commonD ps ss x d = ipD ps d from (if_neg h1).trans (if_pos h2)] at q
      exact iteT ⟨_, rfl, _, rfl, p, v, ps, d, rfl, dp, dv, hp, q _ (.refl H)⟩
    rw [decide_eq_false h2]
    refine iteF ⟨_, rfl, rfl, _, rfl, ?_⟩
    rw [dec_str]
    by_cases h3 : x = "array"
    · rw [decide_eq_true h3]
      rw [show commonD ps ss x d = arrD ps ss d from (if_neg h1).trans ((if_neg h2).trans (if_pos h3))] at q
      exact iteT ⟨_, rfl, _, rfl, _, rfl, p, t, v, ps, ss, d, rfl, dp, ds, dv, hp, q _ (.refl H)⟩
    rw [decide_eq_false h3]
    refine iteF ⟨_, rfl, rfl, _, rfl, ?_⟩
    rw [dec_str]
    by_cases h4 : x = "number"
    · rw [decide_eq_true h4]
      rw [show commonD ps ss x d = numIn 0 99 d from (if_neg h1).trans ((if_neg h2).trans ((if_neg h3).trans (if_pos h4)))] at q
      exact iteT ⟨_, rfl, v, d, _, _, rfl, dv, q _ (.refl H)⟩
    rw [decide_eq_false h4]
    rw [show commonD ps ss x d = oneOf (choices x) d from (if_neg h1).trans ((if_neg h2).trans ((if_neg h3).trans (if_neg h4)))] at q
    exact iteF ⟨_, rfl, _, rfl, x, v, d, rfl, dv, fd, q _ (.refl H)⟩
def cpartD (ps ss : List PyData) (loc : Int) (n : Nat) (x : Str) (d : PyData) : Bool :=
  if x = "read" ∨ x = "write" then numIn 0 (8 - 1) d else if x = "cell" then numIn 0 (loc - 1) d else if x = "index" then numIn 0 ((n : Int) - 1) d else if x = "join" then numIn 0 (n : Int) d else commonD ps ss x d
theorem in2 (x a b : Str) : inV (.str x) [.str a, .str b] = decide (x = a ∨ x = b) := by
  show (eqV (.str a) (.str x) || (eqV (.str b) (.str x) || false)) = _
  show ((a == x) || ((b == x) || false)) = _
  rw [Bool.or_false]
  by_cases h : x = a
  · rw [decide_eq_true (Or.inl h), h, beq_self_eq_true, Bool.true_or]
  · by_cases h2 : x = b
    · rw [decide_eq_true (Or.inr h2), h2, beq_self_eq_true, Bool.or_true]
    · rw [decide_eq_false (fun e => e.elim h h2), beq_eq_false_iff_ne.mpr (Ne.symm h), beq_eq_false_iff_ne.mpr (Ne.symm h2)]; rfl
def sp_is_code_part (K : PySem.W.Frag) : Sp := fun vs H Q _ => ∃ (c v : V) (x : Str) (ps ss is : List PyData) (loc : Int) (d : PyData), vs = [c, .str x, v] ∧ Dp K H c (.tuple [.tuple ps, .tuple ss, .int loc, .tuple is]) ∧ Dp K H v d ∧ ps.all paramD = true ∧ fine d = true ∧
  ∀ H', Same H H' → Q (.bl (cpartD ps ss loc is.length x d)) H'
theorem ok_is_code_part (T : Tx w K mg) : FnOk P w K mg base CX0 5 T.a_is_code_part T.d_is_code_part ["code", "sort", "value"] (sp_is_code_part K) := by
  refine T.F_is_code_part.ok sc_is_code_part (fun vs H Q E h => ?_) (fun cdv A outer s H vs Q E hr h => ?_)
  · obtain ⟨c, v, x, ps, ss, is, loc, d, rfl, _⟩ := h
    rfl
  · obtain ⟨c, v, x, ps, ss, is, loc, d, rfl, dc, dv, hp, fd, q⟩ := h
    refine ⟨_, (pss_cons (ps_asg (pv 0) (pg_tup rfl (pgs_cons (pg_name (i := 3) sc_is_code_part.nd rfl (.inl rfl)) (pgs_cons (pg_name (i := 4) sc_is_code_part.nd rfl (.inl rfl)) (pgs_cons (pg_name (i := 5) sc_is_code_part.nd rfl (.inl rfl)) (pgs_cons (pg_name (i := 6) sc_is_code_part.nd rfl (.inl rfl)) pgs_nil))))))
      (pss_cons (ps_if (pt_cmpR op_in_seq (pv 1) (pe_tup (pa_cons pe_str (pa_cons pe_str pa_nil))) (by rfl)) (pss_one (ps_ret (pe_call (ok_is_between T) (hr.mono (by decide)) (by rfl) T.g_is_between T.F_is_between.kp T.b_is_between .nil pass0 (pa_cons (pv 2) (pa_cons pe_int (pa_cons (pe_op op_sub (pe_gq (by rfl) T.q_MANY_REGISTERS) pe_int) pa_nil)))))) pss_nil)
      (pss_cons (ps_if (pt_cmpR op_eq (pv 1) pe_str (nomark _)) (pss_one (ps_ret (pe_call (ok_is_between T) (hr.mono (by decide)) (by rfl) T.g_is_between T.F_is_between.kp T.b_is_between .nil pass0 (pa_cons (pv 2) (pa_cons pe_int (pa_cons (pe_op op_sub (pv 5) pe_int) pa_nil)))))) pss_nil)
      (pss_cons (ps_if (pt_cmpR op_eq (pv 1) pe_str (nomark _)) (pss_one (ps_ret (pe_call (ok_is_between T) (hr.mono (by decide)) (by rfl) T.g_is_between T.F_is_between.kp T.b_is_between .nil pass0 (pa_cons (pv 2) (pa_cons pe_int (pa_cons (pe_op op_sub (pe_callB call_len_seq (by rfl) T.z_len (by decide +kernel) (pa_cons (pv 6) pa_nil)) pe_int) pa_nil)))))) pss_nil)
      (pss_cons (ps_if (pt_cmpR op_eq (pv 1) pe_str (nomark _)) (pss_one (ps_ret (pe_call (ok_is_between T) (hr.mono (by decide)) (by rfl) T.g_is_between T.F_is_between.kp T.b_is_between .nil pass0 (pa_cons (pv 2) (pa_cons pe_int (pa_cons (pe_callB call_len_seq (by rfl) T.z_len (by decide +kernel) (pa_cons (pv 6) pa_nil)) pa_nil)))))) pss_nil)
      (pss_one (ps_ret (pe_call (ok_is_common_part T) (hr.mono (by decide)) (by rfl) T.g_is_common_part T.F_is_common_part.kp T.b_is_common_part .nil pass0 (pa_cons (pv 3) (pa_cons (pv 4) (pa_cons (pv 1) (pa_cons (pv 2) pa_nil)))))))))))), ?_⟩
    obtain ⟨a, u1, u2, u3, u4, rfl, sq, e1, e2, e3, e4⟩ := Dp.quad dc
    cases Dp.intInv' e3
    obtain ⟨ka, kxs, rfl, kq, dk⟩ := Dp.tupInv' e4
    refine ⟨_, rfl, a, _, rfl, sq, rfl, _, _, rfl, _, _, rfl, _, _, rfl, _, _, rfl, rfl, ?_⟩
    refine ⟨_, rfl, by decide +kernel, fun p np => ?_⟩
    have s1 := same_new5 (o := .tup [.str "read", .str "write"]) np
    refine ⟨p, _, rfl, .inr (SqT.of upd_same), rfl, rfl, _, rfl, ?_⟩
    rw [in2]
    by_cases h1 : x = "read" ∨ x = "write"
    · rw [decide_eq_true h1]
      rw [show cpartD ps ss loc is.length x d = numIn 0 (8 - 1) d from if_pos h1] at q
      exact iteT ⟨_, rfl, _, _, rfl, rfl, v, d, _, _, rfl, dv.same s1, q _ s1⟩
    rw [decide_eq_false h1]
    refine iteF ⟨_, rfl, rfl, _, rfl, ?_⟩
    rw [dec_str]
    by_cases h2 : x = "cell"
    · rw [decide_eq_true h2]
      rw [show cpartD ps ss loc is.length x d = numIn 0 (loc - 1) d from (if_neg h1).trans (if_pos h2)] at q
      exact iteT ⟨_, rfl, _, rfl, _, _, rfl, rfl, v, d, _, _, rfl, dv.same s1, q _ s1⟩
    rw [decide_eq_false h2]
    refine iteF ⟨_, rfl, rfl, _, rfl, ?_⟩
    rw [dec_str]
    by_cases h3 : x = "index"
    · rw [decide_eq_true h3]
      rw [show cpartD ps ss loc is.length x d = numIn 0 ((is.length : Int) - 1) d from (if_neg h1).trans ((if_neg h2).trans (if_pos h3))] at q
      rw [← dk.len] at q
      exact iteT ⟨_, rfl, _, rfl, ka, kxs, rfl, .inr (Same.sqt s1 kq), _, _, rfl, rfl, v, d, _, _, rfl, dv.same s1, q _ s1⟩
    rw [decide_eq_false h3]
    refine iteF ⟨_, rfl, rfl, _, rfl, ?_⟩
    rw [dec_str]
    by_cases h4 : x = "join"
    · rw [decide_eq_true h4]
      rw [show cpartD ps ss loc is.length x d = numIn 0 (is.length : Int) d from (if_neg h1).trans ((if_neg h2).trans ((if_neg h3).trans (if_pos h4)))] at q
      rw [← dk.len] at q
      exact iteT ⟨_, rfl, _, rfl, ka, kxs, rfl, .inr (Same.sqt s1 kq), v, d, _, _, rfl, dv.same s1, q _ s1⟩
    rw [decide_eq_false h4]
    rw [show cpartD ps ss loc is.length x d = commonD ps ss x d from (if_neg h1).trans ((if_neg h2).trans ((if_neg h3).trans (if_neg h4)))] at q
    exact iteF ⟨_, rfl, _, rfl, _, rfl, _, rfl, _, _, v, x, ps, ss, d, rfl, e1.same s1, e2.same s1, dv.same s1, hp, fd, fun H' s2 => q _ (s1.trans s2)⟩
/-! ### rows by a written table -/
def partsOf (tab : List (Str × List Str)) (f : List Str → List PyData → Bool) : PyData → Bool
  | .tuple (.str x :: ps) => match look tab x with
    | some ss => decide (ps.length = ss.length) && f ss ps
    | none => false
  | _ => false
theorem look_some {tab : List (Str × List Str)} {d : PyData} {ss : List Str} (h0 : look tab "" = none) (h : look tab (firstD d) = some ss) : ∃ x ps, d = .tuple (.str x :: ps) ∧ look tab x = some ss := by
  unfold firstD at h
  split at h
  · exact ⟨_, _, rfl, h⟩
  · rw [h0] at h
    cases h
theorem partsOf_none {tab : List (Str × List Str)} {f : List Str → List PyData → Bool} {d : PyData} (h : look tab (firstD d) = none) : partsOf tab f d = false := by
  unfold partsOf
  split
  · next x ps =>
    have h' : look tab x = none := h
    rw [h']
  · rfl
theorem partsOf_some {tab : List (Str × List Str)} {f : List Str → List PyData → Bool} {x : Str} {ps : List PyData} {ss : List Str} (h : look tab x = some ss) : partsOf tab f (.tuple (.str x :: ps)) = (decide (ps.length = ss.length) && f ss ps) := by
  show (match look tab x with | some ss => decide (ps.length = ss.length) && f ss ps | none => false) = _
  rw [h]
/-! ### instructions of code, code -/
def codeTab : List (Str × List Str) := [("get", ["write", "cell"]), ("keep", ["cell", "read"]), ("jump", ["index"]), ("branch", ["read", "index", "join"]), ("exit", [])]
def insTab : List (Str × List Str) := [("word", ["write", "word"]), ("param", ["write", "param"]), ("special", ["write", "special"]), ("copy", ["write", "read"]), ("unary", ["unary", "write", "read"]), ("binary", ["binary", "write", "read", "read"]), ("load", ["write", "array", "read"]), ("store", ["array", "read", "read"]), ("atomic", ["folding", "array", "read", "read"]), ("barrier", ["number"]), ("collect", ["folding", "write", "read", "number"])]
theorem code_tab (T : Tx w K mg) : ∃ ps, KTab K w T.a_CODE_PARTS ps ∧ T2 K ps codeTab :=
  ⟨_, T.w_CODE_PARTS, .cons T.t_CODE_PARTS_0 (.cons T.t_CODE_PARTS_1 (.cons T.t_CODE_PARTS_2 (.cons T.t_CODE_PARTS_3 (.cons T.t_CODE_PARTS_4 .nil))))⟩
theorem ins_tab (T : Tx w K mg) : ∃ ps, KTab K w T.a_INSTRUCTION_PARTS ps ∧ T2 K ps insTab :=
  ⟨_, T.w_INSTRUCTION_PARTS, .cons T.t_INSTRUCTION_PARTS_0 (.cons T.t_INSTRUCTION_PARTS_1 (.cons T.t_INSTRUCTION_PARTS_2 (.cons T.t_INSTRUCTION_PARTS_3 (.cons T.t_INSTRUCTION_PARTS_4 (.cons T.t_INSTRUCTION_PARTS_5 (.cons T.t_INSTRUCTION_PARTS_6 (.cons T.t_INSTRUCTION_PARTS_7 (.cons T.t_INSTRUCTION_PARTS_8 (.cons T.t_INSTRUCTION_PARTS_9 (.cons T.t_INSTRUCTION_PARTS_10 .nil))))))))))⟩
theorem look_app : ∀ (a b : List (Str × List Str)) (z : Str), look (a ++ b) z = (look a z).or (look b z)
  | [], b, z => by rw [List.nil_append]; show look b z = Option.or none (look b z); rfl
  | p :: r, b, z => by
    show (if p.1 = z then some p.2 else look (r ++ b) z) = Option.or (if p.1 = z then some p.2 else look r z) (look b z)
    by_cases h : p.1 = z
    · rw [if_pos h, if_pos h]; rfl
    · rw [if_neg h, if_neg h]; exact look_app r b z
theorem tab2 {ps1 ps2 : List (Str × V)} {t1 t2 : List (Str × List Str)} (h1 : T2 K ps1 t1) (h2 : T2 K ps2 t2) (z : Str) : (look (t1 ++ t2) z = none ∧ (tabGet ps1 z).getD ((tabGet ps2 z).getD .non) = .non) ∨
    ∃ ss p, look (t1 ++ t2) z = some ss ∧ (tabGet ps1 z).getD ((tabGet ps2 z).getD .non) = .ref p ∧ KTup K p (ss.map V.str) := by
  rw [look_app]
  rcases h1.at z with ⟨a1, a2⟩ | ⟨ss, p, a1, a2, a3⟩
  · rcases h2.at z with ⟨b1, b2⟩ | ⟨ss, p, b1, b2, b3⟩
    · exact .inl ⟨by rw [a1, b1]; rfl, by rw [a2, b2]; rfl⟩
    · exact .inr ⟨ss, p, by rw [a1, b1]; rfl, by rw [a2, b2]; rfl, b3⟩
  · exact .inr ⟨ss, p, by rw [a1]; rfl, by rw [a2]; rfl, a3⟩
theorem look_mem : ∀ {t : List (Str × List Str)} {z : Str} {s : List Str}, look t z = some s → ∃ k, (k, s) ∈ t
  | [], _, _, h => by cases h
  | p :: r, z, s, h => by
    by_cases e : p.1 = z
    · have h' : (if p.1 = z then some p.2 else look r z) = some s := h
      rw [if_pos e] at h'
      cases h'
      exact ⟨p.1, .head _⟩
    · have h' : (if p.1 = z then some p.2 else look r z) = some s := h
      rw [if_neg e] at h'
      obtain ⟨k, m⟩ := look_mem h'
      exact ⟨k, .tail _ m⟩
theorem look_short {z : Str} {s : List Str} (h : look (codeTab ++ insTab) z = some s) : s.length ≤ 4 := by
  obtain ⟨k, m⟩ := look_mem h
  have : ∀ e ∈ codeTab ++ insTab, e.2.length ≤ 4 := by decide +kernel
  exact this _ m
abbrev cpairs (ps ss : List PyData) (loc : Int) (n : Nat) (sorts : List Str) (qs : List PyData) : Bool := (List.zip sorts qs).all fun p => cpartD ps ss loc n p.1 p.2
def insD (ps ss : List PyData) (loc : Int) (n : Nat) : PyData → Bool := partsOf (codeTab ++ insTab) (cpairs ps ss loc n)
theorem gbools_snoc {α : Type} {xs : List α} {f : α → Bool} {i : Nat} {d : α} (h : xs[i]? = some d) : ((xs.take (i + 1)).map fun d => V.bl (f d)) = ((xs.take i).map fun d => V.bl (f d)) ++ [V.bl (f d)] := by
  rw [List.take_add_one, h, List.map_append]
  rfl
theorem gall_bools {α : Type} (xs : List α) (f : α → Bool) : (xs.map f).all id = xs.all f := by
  induction xs with
  | nil => rfl
  | cons x r ih => rw [List.map_cons, List.all_cons, List.all_cons, ih]; rfl
def sp_is_code_instruction (K : PySem.W.Frag) : Sp := fun vs H Q _ => ∃ (c v : V) (ps ss is : List PyData) (loc : Int) (d : PyData), vs = [c, v] ∧ Dp K H c (.tuple [.tuple ps, .tuple ss, .int loc, .tuple is]) ∧ Dp K H v d ∧ ps.all paramD = true ∧ fine d = true ∧
  ∀ H', Same H H' → Q (.bl (insD ps ss loc is.length d)) H'
set_option maxHeartbeats 1000000 in
theorem ok_is_code_instruction (T : Tx w K mg) : FnOk P w K mg base CX0 6 T.a_is_code_instruction T.d_is_code_instruction ["code", "value"] (sp_is_code_instruction K) := by
  refine T.F_is_code_instruction.ok sc_is_code_instruction (fun vs H Q E h => ?_) (fun cdv A outer s H vs Q E hr h => ?_)
  · obtain ⟨c, v, ps, ss, is, loc, d, rfl, _⟩ := h
    rfl
  · obtain ⟨c, v, ps, ss, is, loc, d, rfl, dc, dv, hp, fd, q⟩ := h
    refine ⟨_, (pss_cons (ps_set (i := 2) sc_is_code_instruction.nd rfl (.inl rfl) (pe_call (ok_first_word T) (hr.mono (by decide)) (by rfl) T.g_first_word T.F_first_word.kp T.b_first_word .nil pass0 (pa_cons (pv 1) pa_nil)))
      (pss_cons (ps_set (i := 3) sc_is_code_instruction.nd rfl (.inl rfl) (pe_kget2 (pe_gq (by rfl) T.q_CODE_PARTS) (pv 2) (pe_kget1 (pe_gq (by rfl) T.q_INSTRUCTION_PARTS) (pv 2) ⟨rfl, rfl, by decide, rfl⟩) ⟨rfl, rfl, by decide, rfl⟩))
      (pss_cons (ps_if (PW.pt (pw_or (pt_cmpR op_isN (pv 3) pe_non (nomark _)) (pw_or1 (pt_cmpR op_ne (pe_callB call_len_seq (by rfl) T.z_len (by decide +kernel) (pa_cons (pv 1) pa_nil)) (pe_op op_add pe_int (pe_callB call_len_seq (by rfl) T.z_len (by decide +kernel) (pa_cons (pv 3) pa_nil))) (nomark _))))) (pss_one (ps_ret pe_bl)) pss_nil)
      (pss_one (ps_ret (pe_callB (cr_all rfl) (by rfl) T.z_all (by decide +kernel) (pa_cons (pe_lc (own := [("sort", 4), ("part", 5)]) (g := gTup K 2 (gCons (gName 4) (gCons (gName 5) gNil))) (tt := tYes) rfl sc_is_code_instruction.nd (RZ.pi_zipA (by rfl) T.z_zip (pa_cons (pv 3) (pa_cons (pe_slice sl_tup (pv 1) (po_some pe_int) po_none) pa_nil))) (blkOk_by (N := ["code", "value", "word", "sorts", "sort", "part"]) (sc := defScope s_is_code_instruction) (by decide +kernel)) (fun _ _ _ _ _ => (pg_tup rfl (pgs_cons (pg_name (i := 4) sc_is_code_instruction.nd rfl (.inl rfl)) (pgs_cons (pg_name (i := 5) sc_is_code_instruction.nd rfl (.inl rfl)) pgs_nil)))) (fun _ _ _ _ _ => pts_nil) (fun _ _ _ _ _ => (pe_call (ok_is_code_part T) (hr.mono (by decide)) (by rfl) T.g_is_code_part T.F_is_code_part.kp T.b_is_code_part .nil pass0 (pa_cons (pv 0) (pa_cons (pv 4) (pa_cons (pv 5) pa_nil)))))) pa_nil))))))), ?_⟩
    obtain ⟨ps1, hT1, hS1⟩ := code_tab T
    obtain ⟨ps2, hT2, hS2⟩ := ins_tab T
    refine ⟨_, rfl, v, d, rfl, dv, ?_⟩
    refine ⟨_, ps1, rfl, hT1, _, rfl, firstD d, rfl, _, ps2, rfl, hT2, _, rfl, firstD d, rfl, ?_⟩
    rcases tab2 hS1 hS2 (firstD d) with ⟨l1, l2⟩ | ⟨so, p, l1, l2, hp2⟩
    · rw [l2]
      rw [show insD ps ss loc is.length d = false from partsOf_none l1] at q
      exact ⟨_, rfl, rfl, _, rfl, iteT (q _ (.refl H))⟩
    · rw [l2]
      obtain ⟨x, ds, rfl, lx⟩ := look_some (by decide +kernel) l1
      cases dv with
      | @tup a xs _ h r =>
      cases r with
      | @cons v0 vs _ _ p0 r2 =>
      cases p0
      have hK : SqT K H p (so.map V.str) := .inr hp2
      have evl : vs.length = ds.length := r2.len
      refine ⟨_, rfl, rfl, _, rfl, iteF ⟨_, rfl, a, _, rfl, .inr h, _, rfl, p, _, rfl, .inr hK, _, _, rfl, rfl, rfl, _, rfl, ?_⟩⟩
      have ec : (!decide (V.int (((V.str x :: vs).length : Nat) : Int) = V.int (1 + (((so.map V.str).length : Nat) : Int)))) = !decide (ds.length = so.length) := by
        rw [List.length_cons, List.length_map, evl]
        by_cases hh : ds.length = so.length
        · rw [hh, decide_eq_true (by rw [show ((so.length + 1 : Nat) : Int) = 1 + (so.length : Int) by omega]), decide_eq_true rfl]
        · rw [decide_eq_false hh, decide_eq_false (fun z => hh (by have := V.int.inj z; omega))]
      rw [ec]
      have ei : insD ps ss loc is.length (.tuple (.str x :: ds)) = (decide (ds.length = so.length) && cpairs ps ss loc is.length so ds) := partsOf_some lx
      rw [ei] at q
      by_cases hl : ds.length = so.length
      · rw [decide_eq_true hl, Bool.true_and] at q
        rw [decide_eq_true hl]
        refine iteF ⟨_, rfl, _, rfl, _, rfl, ?_⟩
        dsimp only [tNoPart]
        refine ⟨a, .str x :: vs, rfl, h, cut1 (by rw [List.length_cons]; omega), fun r nr => ?_⟩
        rw [cutV1]
        have sr := same_new5 (o := .tup vs) nr
        have hR : SqT K (upd H r (.tup vs)) r vs := SqT.of upd_same
        have evs : (so.map V.str).length = vs.length := by rw [List.length_map, evl, hl]
        have fs := fine_tup fd
        refine ⟨p, r, _, _, rfl, .inr ⟨Same.sqt sr hK, hR, fun D nD => ?_⟩⟩
        refine lc_zipT (K := K) (a := p) (b := r) (xs := so.map V.str) (ys := vs) evs
          (fun i H' => H' D = some (.lst (((List.zip so ds).take i).map fun z => V.bl (cpartD ps ss loc is.length z.1 z.2))) ∧ Same (upd H r (.tup vs)) H')
          ⟨upd_same, same_new5 nD⟩ (fun i H' ⟨_, e⟩ => ⟨Same.sqt (sr.trans e) hK, Same.sqt e hR⟩) ?_ ?_
        · rintro i x1 y1 t H1 hx hy ⟨eD, sm⟩ nt
          rw [List.getElem?_map] at hx
          obtain ⟨s1, es1, rfl⟩ := Option.map_eq_some_iff.mp hx
          obtain ⟨dy, edy, pdy⟩ := r2.get hy
          have ez : (List.zip so ds)[i]? = some (s1, dy) := List.getElem?_zip_eq_some.mpr ⟨es1, edy⟩
          have i2 : i < so.length := (List.getElem?_eq_some_iff.mp es1).1
          have s1' := same_new5 (o := .tup [.str s1, y1]) nt
          have st := (sr.trans sm).trans s1'
          refine ⟨t, _, rfl, SqT.of upd_same, rfl, _, _, rfl, _, _, rfl, rfl, rfl, ?_⟩
          refine ⟨_, rfl, _, rfl, _, rfl, c, y1, s1, ps, ss, is, loc, dy, rfl, dc.same st, pdy.same st, hp, fineAll_mem fs (.tail _ (List.mem_of_getElem? edy)), fun H2 s2 => ⟨_, s2 _ _ (s1' _ _ eD), ?_, ?_, fun c o e => ?_⟩⟩
          · rw [List.length_map]; exact small1000 (by have := look_short lx; rw [List.length_take]; omega)
          · rw [upd_same, gbools_snoc ez]
          · rw [upd_ne (ne_of_none e nD)]; exact s2 _ _ (s1' _ _ (sm _ _ e))
        · rintro H1 ⟨eD, sm⟩
          have el : (List.zip so ds).length = so.length := by rw [List.length_zip, hl, Nat.min_self]
          rw [List.length_map, ← el, List.take_length] at eD
          refine ⟨D, (List.zip so ds).map fun z => cpartD ps ss loc is.length z.1 z.2, rfl, SqL.of (by rw [List.map_map]; exact eD), ?_⟩
          rw [gall_bools]
          exact q _ (sr.trans sm)
      · rw [decide_eq_false hl, Bool.false_and] at q
        rw [decide_eq_false hl]
        exact iteT (q _ (.refl H))
theorem tupIn4 {d : PyData} (h : tupIn 4 4 d = true) : ∃ a b c e, d = .tuple [a, b, c, e] := by
  cases d with
  | tuple xs =>
    replace h : (decide ((4 : Int) ≤ (xs.length : Int)) && decide ((xs.length : Int) ≤ 4)) = true := h
    rw [Bool.and_eq_true] at h
    have h1 := of_decide_eq_true h.1
    have h2 := of_decide_eq_true h.2
    match xs, h1, h2 with
    | [a, b, c, e], _, _ => exact ⟨a, b, c, e, rfl⟩
    | [], h, _ => exact absurd h (by show ¬ ((4 : Int) ≤ ((0 : Nat) : Int)); omega)
    | [_], h, _ => exact absurd h (by show ¬ ((4 : Int) ≤ ((1 : Nat) : Int)); omega)
    | [_, _], h, _ => exact absurd h (by show ¬ ((4 : Int) ≤ ((2 : Nat) : Int)); omega)
    | [_, _, _], h, _ => exact absurd h (by show ¬ ((4 : Int) ≤ ((3 : Nat) : Int)); omega)
    | _ :: _ :: _ :: _ :: _ :: r, _, h => exact absurd h (by simp only [List.length_cons]; omega)
  | _ => cases h
def lastOk (is : List PyData) : Bool := decide (firstD (is.getLastD .none) = "exit" ∨ firstD (is.getLastD .none) = "jump")
def restP (p s l i : PyData) : Bool := match p, s, l, i with
  | .tuple ps, .tuple ss, .int loc, .tuple is => lastOk is && is.all (insD ps ss loc is.length)
  | _, _, _, _ => false
def codeP : PyData → Bool
  | .tuple [p, s, l, i] => headD p s && (numIn 0 64 l && (tupIn 1 2000 i && restP p s l i))
  | _ => false
theorem codeP_no {d : PyData} (h : ¬ tupIn 4 4 d = true) : codeP d = false := by
  unfold codeP
  split
  · exact absurd rfl h
  · rfl
theorem atI_neg1 {α : Type} {xs : List α} (h : xs ≠ []) : atI xs (-1) = some (xs.getLast h) := by
  unfold atI ixN
  have : 0 < xs.length := List.length_pos_iff.mpr h
  rw [if_neg (by decide), if_pos (by omega)]
  show xs[_]? = _
  rw [List.getLast_eq_getElem]
  rw [show (-1 + (xs.length : Int)).toNat = xs.length - 1 by omega]
  exact List.getElem?_eq_getElem _
def sp_is_code (K : PySem.W.Frag) : Sp := fun vs H Q _ => ∃ (v : V) (d : PyData), vs = [v] ∧ Dp K H v d ∧ fine d = true ∧ ∀ H', Same H H' → Q (.bl (codeP d)) H'
set_option maxHeartbeats 1000000 in
theorem ok_is_code (T : Tx w K mg) : FnOk P w K mg base CX0 12 T.a_is_code T.d_is_code ["value"] (sp_is_code K) := by
  refine T.F_is_code.ok sc_is_code (fun vs H Q E h => ?_) (fun cdv A outer s H vs Q E hr h => ?_)
  · obtain ⟨v, d, rfl, _⟩ := h
    rfl
  · obtain ⟨v, d, rfl, hd, hs, q⟩ := h
    refine ⟨_, (pss_cons (ps_if (pt_not (pt_val (pe_call (ok_is_tuple T) (hr.mono (by decide)) (by rfl) T.g_is_tuple T.F_is_tuple.kp T.b_is_tuple .nil pass0 (pa_cons (pv 0) (pa_cons pe_int (pa_cons pe_int pa_nil)))))) (pss_one (ps_ret pe_bl)) pss_nil)
      (pss_cons (ps_asg (pv 0) (pg_tup rfl (pgs_cons (pg_name (i := 1) sc_is_code.nd rfl (.inl rfl)) (pgs_cons (pg_name (i := 2) sc_is_code.nd rfl (.inl rfl)) (pgs_cons (pg_name (i := 3) sc_is_code.nd rfl (.inl rfl)) (pgs_cons (pg_name (i := 4) sc_is_code.nd rfl (.inl rfl)) pgs_nil))))))
      (pss_cons (ps_if (PW.pt (pw_or (pt_not (pt_val (pe_call (ok_is_head T) (hr.mono (by decide)) (by rfl) T.g_is_head T.F_is_head.kp T.b_is_head .nil pass0 (pa_cons (pv 1) (pa_cons (pv 2) pa_nil))))) (pw_or1 (pt_not (pt_val (pe_call (ok_is_between T) (hr.mono (by decide)) (by rfl) T.g_is_between T.F_is_between.kp T.b_is_between .nil pass0 (pa_cons (pv 3) (pa_cons pe_int (pa_cons (pe_gq (by rfl) T.q_MOST_CELLS) pa_nil))))))))) (pss_one (ps_ret pe_bl)) pss_nil)
      (pss_cons (ps_if (pt_not (pt_val (pe_call (ok_is_tuple T) (hr.mono (by decide)) (by rfl) T.g_is_tuple T.F_is_tuple.kp T.b_is_tuple .nil pass0 (pa_cons (pv 4) (pa_cons pe_int (pa_cons (pe_gq (by rfl) T.q_MOST_INSTRUCTIONS) pa_nil)))))) (pss_one (ps_ret pe_bl)) pss_nil)
      (pss_cons (ps_if (pt_cmpR op_notIn_seq (pe_call (ok_first_word T) (hr.mono (by decide)) (by rfl) T.g_first_word T.F_first_word.kp T.b_first_word .nil pass0 (pa_cons (pe_ix ix_tup (pv 4) (pe_un un_neg pe_int) (fun _ _ => rfl)) pa_nil)) (pe_tup (pa_cons pe_str (pa_cons pe_str pa_nil))) (by rfl)) (pss_one (ps_ret pe_bl)) pss_nil)
      (pss_one (ps_ret (pe_callB (cr_all rfl) (by rfl) T.z_all (by decide +kernel) (pa_cons (pe_lc (own := [("instruction", 5)]) (g := gName 5) (tt := tYes) rfl sc_is_code.nd (pi_tup (pv 4)) (blkOk_by (N := ["value", "params", "shared", "local", "instructions", "instruction"]) (sc := defScope s_is_code) (by decide +kernel)) (fun _ _ _ _ _ => (pg_name (i := 5) sc_is_code.nd rfl (.inl rfl))) (fun _ _ _ _ _ => pts_nil) (fun _ _ _ _ _ => (pe_call (ok_is_code_instruction T) (hr.mono (by decide)) (by rfl) T.g_is_code_instruction T.F_is_code_instruction.kp T.b_is_code_instruction .nil pass0 (pa_cons (pv 0) (pa_cons (pv 5) pa_nil))))) pa_nil))))))))), ?_⟩
    refine ⟨_, rfl, v, d, 4, 4, rfl, hd, _, rfl, ?_⟩
    by_cases ht : tupIn 4 4 d = true
    · rw [ht]
      obtain ⟨dp, ds, dl, di, rfl⟩ := tupIn4 ht
      have fs := fine_tup hs
      have fp := fineAll_mem fs (.head _)
      have fh := fineAll_mem fs (.tail _ (.head _))
      have fi := fineAll_mem fs (.tail _ (.tail _ (.tail _ (.head _))))
      obtain ⟨a, u1, u2, u3, u4, rfl, sq, e1, e2, e3, e4⟩ := Dp.quad hd
      have e : codeP (.tuple [dp, ds, dl, di]) = (headD dp ds && (numIn 0 64 dl && (tupIn 1 2000 di && restP dp ds dl di))) := rfl
      rw [e] at q
      refine iteF ⟨_, rfl, a, _, rfl, sq, rfl, _, _, rfl, _, _, rfl, _, _, rfl, _, _, rfl, rfl, ?_⟩
      refine ⟨_, rfl, _, rfl, u1, u2, dp, ds, rfl, e1, e2, fp, fh, fun H1 s1 => ⟨_, rfl, ?_⟩⟩
      by_cases hh : headD dp ds = true
      · rw [hh, Bool.true_and] at q
        rw [hh]
        obtain ⟨ps, ss, rfl, rfl, lp, ls, ap, as⟩ := headD_shape hh
        refine iteF ⟨_, rfl, u3, dl, 0, 64, rfl, e3.same s1, _, rfl, ?_⟩
        by_cases hn : numIn 0 64 dl = true
        · rw [hn, Bool.true_and] at q
          rw [hn]
          obtain ⟨loc, rfl, l0, l1⟩ := numIn_int hn
          refine iteF ⟨_, rfl, u4, di, 1, 2000, rfl, e4.same s1, _, rfl, ?_⟩
          by_cases hi : tupIn 1 2000 di = true
          · rw [hi, Bool.true_and] at q
            rw [hi]
            obtain ⟨is, rfl⟩ : ∃ is, di = .tuple is := by cases di <;> first | exact ⟨_, rfl⟩ | cases hi
            obtain ⟨ka, kxs, rfl, kq, dk⟩ := Dp.tupInv' e4
            have hlen : 1 ≤ is.length ∧ is.length ≤ 2000 := by
              replace hi : (decide ((1 : Int) ≤ (is.length : Int)) && decide ((is.length : Int) ≤ 2000)) = true := hi
              rw [Bool.and_eq_true] at hi
              have a1 := of_decide_eq_true hi.1
              have a2 := of_decide_eq_true hi.2
              omega
            have er : restP (.tuple ps) (.tuple ss) (.int loc) (.tuple is) = (lastOk is && is.all (insD ps ss loc is.length)) := rfl
            rw [er] at q
            have hne : kxs ≠ [] := fun z => by
              have := dk.len
              rw [z, List.length_nil] at this
              omega
            have hne2 : is ≠ [] := fun z => by rw [z, List.length_nil] at hlen; omega
            have hlast : Dp K H (kxs.getLast hne) (is.getLastD .none) := by
              have g1 : kxs[kxs.length - 1]? = some (kxs.getLast hne) := by rw [List.getLast_eq_getElem]; exact List.getElem?_eq_getElem _
              obtain ⟨d, hd2, hdp⟩ := dk.get g1
              rw [dk.len] at hd2
              have g2 : is.getLastD .none = d := by
                rw [List.getLastD_eq_getLast?, List.getLast?_eq_getElem?, hd2]; rfl
              rw [g2]
              exact hdp
            refine iteF ⟨_, rfl, _, rfl, _, _, _, _, rfl, rfl, Same.sqt s1 kq, atI_neg1 hne, _, _, rfl, hlast.same s1, by decide +kernel, fun p np => ?_⟩
            have s2 := s1.trans (same_new5 (o := .tup [.str "exit", .str "jump"]) np)
            refine ⟨p, _, rfl, .inr (SqT.of upd_same), rfl, rfl, _, rfl, ?_⟩
            rw [in2]
            have eo : lastOk is = decide (firstD (is.getLastD .none) = "exit" ∨ firstD (is.getLastD .none) = "jump") := rfl
            rw [← eo]
            generalize L2.upd H1 p (.tup [.str "exit", .str "jump"]) = H2 at s2 ⊢
            cases hl : lastOk is with
            | false =>
              rw [hl, Bool.false_and] at q
              exact iteT (q _ s2)
            | true =>
              rw [hl, Bool.true_and] at q
              refine iteF ⟨_, rfl, ka, rfl, ⟨_, Same.sqt s2 kq⟩, fun D nD => lc_tup (K := K) (a := ka) (xs := kxs) (fun i H' => H' D = some (.lst ((is.take i).map fun d => V.bl (insD ps ss loc is.length d))) ∧ Same H2 H') ⟨upd_same, fun c o e => by rw [upd_ne (ne_of_none e nD)]; exact e⟩ (fun i H' _ ⟨_, e⟩ => Same.sqt (s2.trans e) kq) ?_ ?_⟩
              · rintro i x H3 hx ⟨eD, sm⟩
                obtain ⟨d, ed, pd⟩ := dk.get hx
                have hi2 : i < is.length := (List.getElem?_eq_some_iff.mp ed).1
                have s3 := s2.trans sm
                refine ⟨rfl, _, rfl, _, rfl, .ref a, x, ps, ss, is, loc, d, rfl, hd.same s3, pd.same s3, ap, fineAll_mem (fine_tup fi) (List.mem_of_getElem? ed), fun H4 s4 => ⟨_, s4 _ _ eD, ?_, ?_, fun c o e => ?_⟩⟩
                · rw [List.length_map, sizeLine_eq, List.length_take]; omega
                · rw [upd_same, gbools_snoc ed]
                · rw [upd_ne (ne_of_none e nD)]; exact s4 _ _ (sm _ _ e)
              · rintro H3 ⟨eD, sm⟩
                rw [dk.len, List.take_length] at eD
                refine ⟨D, is.map (insD ps ss loc is.length), rfl, SqL.of (by rw [List.map_map]; exact eD), ?_⟩
                rw [gall_bools]
                exact q _ (s2.trans sm)
          · rw [Bool.eq_false_iff.mpr hi, Bool.false_and] at q
            rw [Bool.eq_false_iff.mpr hi]
            exact iteT (q _ s1)
        · rw [Bool.eq_false_iff.mpr hn, Bool.false_and] at q
          rw [Bool.eq_false_iff.mpr hn]
          exact iteT (q _ s1)
      · rw [Bool.eq_false_iff.mpr hh, Bool.false_and] at q
        rw [Bool.eq_false_iff.mpr hh]
        exact iteT (q _ s1)
    · rw [Bool.eq_false_iff.mpr ht]
      rw [codeP_no ht] at q
      exact iteT (q _ (.refl H))
def sp_check_code (K : PySem.W.Frag) (C : Addr) : Sp := fun vs H Q E => ∃ (v : V) (d : PyData), vs = [v] ∧ Dp K H v d ∧ fine d = true ∧
  (codeP d = true → ∀ H', Same H H' → Q .non H') ∧ (codeP d = false → ∀ H', Same H H' → E (.ref C) none H')
theorem ok_check_code (T : Tx w K mg) : FnOk P w K mg base (L2.CX P w) 13 T.a_check_code T.d_check_code ["value"] (sp_check_code K T.c_BadCode) := by
  refine T.F_check_code.okX sc_check_code (fun vs H Q E h => ?_) (fun cdv A outer s H vs Q E hr h => ?_)
  · obtain ⟨v, d, rfl, _⟩ := h
    rfl
  · obtain ⟨v, d, rfl, hd, hs, q1, q2⟩ := h
    refine ⟨_, (pss_one (ps_if (pt_not (pt_val (pe_call (ok_is_code T) (hr.mono (by decide)) (by rfl) T.g_is_code T.F_is_code.kp T.b_is_code .nil pass0 (pa_cons (pv 0) pa_nil)))) (pss_one (ps_raise rfl (takes_of rfl rfl rfl rfl) (pmk_own PySem.F.excBase_ValueError T.x_BadCode T.g_BadCode T.k_BadCode (raises_own T.bx_BadCode T.ty_BadCode) (by rfl)))) pss_nil)), ?_⟩
    refine ⟨_, rfl, v, d, rfl, hd, hs, fun H1 s1 => ⟨_, rfl, ?_⟩⟩
    by_cases hl : codeP d = true
    · rw [hl]
      exact iteF (q1 hl _ s1)
    · have hf := Bool.eq_false_iff.mpr hl
      rw [hf]
      exact iteT (q2 hf _ s1)
/-! ### the law's operators -/
theorem ok_law_wrapped (T : Tx w K mg) : FnOk P w K mg base CX0 1 T.a_law_wrapped T.d_law_wrapped ["number"] (sp1 lwrap) := by
  refine T.F_law_wrapped.ok sc_law_wrapped (fun vs H Q E h => ?_) (fun cdv A outer s H vs Q E hr h => ?_)
  · obtain ⟨n, rfl, _⟩ := h
    rfl
  · obtain ⟨n, rfl, q⟩ := h
    refine ⟨_, (pss_cons (ps_set (i := 0) sc_law_wrapped.nd rfl (.inl rfl) (pe_op op_mod (pe_callTy call_int1 (by rfl) T.z_int (by decide +kernel) (pa_cons (pv 0) pa_nil)) pe_int))
      (pss_one (ps_ret (pe_op op_sub (pv 0) (pe_op op_mul pe_int (pe_callTy call_int1 (by rfl) T.z_int (by decide +kernel) (pa_cons (pe_cmpR op_gt (pv 0) pe_int (nomark _)) pa_nil))))))), ?_⟩
    exact ⟨_, rfl, .inl ⟨_, rfl, _, _, rfl, rfl, (by show (0 : Int) < 4294967296; decide), _, rfl, _, rfl, _, _, rfl, rfl, .inr ⟨_, rfl, _, _, rfl, rfl, .inl ⟨by decide, by decide⟩, _, _, rfl, rfl, q⟩⟩⟩
theorem dget {H : Hp} {a : Addr} {kvs : List (Key × V)} {k : Key} {v : V} (h : H a = some (.dK kvs)) (e : valV kvs k = some v) : DGet H a (kV k) (some v) := by
  rw [← e]
  exact DGet.k h
def isBit : Op → Bool
  | .and | .or | .xor => true
  | _ => false
def sp_law_bits : Sp := fun vs H Q _ => ∃ (o : Op) (a b : Int), vs = [.str o.s, .int a, .int b] ∧ isBit o = true ∧ ∀ H', Same H H' → Q (.int (lb o 32 (a % 4294967296) (b % 4294967296))) H'
theorem bit_at (o : Op) (h : isBit o = true) (x y : Int) : valV (mergeK [] [(Sum.inr "and", V.int (x * y)), (Sum.inr "or", V.int (if y > x then y else x)), (Sum.inr "xor", V.int (if (!decide (V.int x = V.int y)) = true then 1 else 0))]) (Sum.inr o.s) = some (.int (bit o x y)) := by
  cases o <;> first | (cases h; done) | rfl
theorem ok_law_bits (T : Tx w K mg) : FnOk P w K mg base CX0 1 T.a_law_bits T.d_law_bits ["op", "a", "b"] sp_law_bits := by
  refine T.F_law_bits.ok sc_law_bits (fun vs H Q E h => ?_) (fun cdv A outer s H vs Q E hr h => ?_)
  · obtain ⟨o, a, b, rfl, _⟩ := h
    rfl
  · obtain ⟨o, a, b, rfl, ho, q⟩ := h
    refine ⟨_, (pss_cons (ps_set (i := 1) sc_law_bits.nd rfl (.inl rfl) (pe_op op_mod (pe_callTy call_int1 (by rfl) T.z_int (by decide +kernel) (pa_cons (pv 1) pa_nil)) pe_int))
      (pss_cons (ps_set (i := 2) sc_law_bits.nd rfl (.inl rfl) (pe_op op_mod (pe_callTy call_int1 (by rfl) T.z_int (by decide +kernel) (pa_cons (pv 2) pa_nil)) pe_int))
      (pss_cons (ps_set (i := 3) sc_law_bits.nd rfl (.inl rfl) pe_int)
      (pss_cons (ps_set (i := 4) sc_law_bits.nd rfl (.inl rfl) pe_int)
      (pss_cons (ps_for PassesOwn.never rfl (pi_range1 (by rfl) T.z_range (pa_cons pe_int pa_nil)) (pg_name (i := 5) sc_law_bits.nd rfl (.inl rfl)) (pss_cons (ps_set (i := 6) sc_law_bits.nd rfl (.inl rfl) (pe_op op_mod (pe_callTy call_int1 (by rfl) T.z_int (by decide +kernel) (pa_cons (pv 1) pa_nil)) pe_int))
      (pss_cons (ps_set (i := 7) sc_law_bits.nd rfl (.inl rfl) (pe_op op_mod (pe_callTy call_int1 (by rfl) T.z_int (by decide +kernel) (pa_cons (pv 2) pa_nil)) pe_int))
      (pss_cons (ps_set (i := 8) sc_law_bits.nd rfl (.inl rfl) (pe_dget (hu_of hr) (pe_disp (pps_cons pe_str (pe_op op_mul (pv 6) (pv 7)) (pps_cons pe_str (pe_callB (call_max2 rfl) (by rfl) T.z_max (by decide +kernel) (pa_cons (pv 6) (pa_cons (pv 7) pa_nil))) (pps_cons pe_str (pe_callTy call_int1 (by rfl) T.z_int (by decide +kernel) (pa_cons (pe_cmpR op_ne (pv 6) (pv 7) (nomark _)) pa_nil)) pps_nil))) (by rfl) (by rfl) (fun z => by cases z) (by decide)) (pv 0) (fun _ _ => rfl)))
      (pss_cons (ps_set (i := 3) sc_law_bits.nd rfl (.inl rfl) (pe_op op_add (pv 3) (pe_op op_mul (pv 4) (pv 8))))
      (pss_cons (ps_set (i := 4) sc_law_bits.nd rfl (.inl rfl) (pe_op op_mul (pv 4) pe_int))
      (pss_cons (ps_set (i := 1) sc_law_bits.nd rfl (.inl rfl) (pe_op op_fdivW (pv 1) pe_int))
      (pss_one (ps_set (i := 2) sc_law_bits.nd rfl (.inl rfl) (pe_op op_fdivW (pv 2) pe_int))))))))))
      (pss_one (ps_ret (pv 3)))))))), ?_⟩
    refine ⟨_, rfl, .inl ⟨_, rfl, _, _, rfl, rfl, (by show (0 : Int) < 4294967296; decide), _, rfl, .inl ⟨_, rfl, _, _, rfl, rfl, (by show (0 : Int) < 4294967296; decide), ?_⟩⟩⟩
    refine ⟨32, rfl, by decide, by decide, for_range (n := 32) (fun i σ H' => ∃ (x y t : Int) (y5 y6 y7 y8 : Option V), σ = [some (.str o.s), some (.int x), some (.int y), some (.int t), some (.int (2 ^ i)), y5, y6, y7, y8] ∧ i ≤ 32 ∧ t + 2 ^ i * lb o (32 - i) x y = lb o 32 (a % 4294967296) (b % 4294967296) ∧ Same H H') ⟨_, _, 0, none, none, none, none, rfl, by decide, by show 0 + 1 * lb o 32 _ _ = _; omega, .refl H⟩ ?_ ?_⟩
    · rintro i σ H' hi ⟨x, y, t, y5, y6, y7, y8, rfl, h32, e, sm⟩
      refine ⟨_, rfl, .inl ⟨_, rfl, _, _, rfl, rfl, (by show (0 : Int) < 2; decide), _, rfl, .inl ⟨_, rfl, _, _, rfl, rfl, (by show (0 : Int) < 2; decide), ?_⟩⟩⟩
      have hp : (0 : Int) < 2 ^ i := Int.pow_pos (by decide)
      intro p np
      refine ⟨_, rfl, _, rfl, _, _, rfl, rfl, .inl ⟨by omega, by omega⟩, _, rfl, _, rfl, _, _, rfl, _, rfl, _, rfl, rfl, .inr ⟨_, rfl, ?_⟩⟩
      refine ⟨upd_same, [(Sum.inr "and", _), (Sum.inr "or", _), (Sum.inr "xor", _)], rfl, (by show 3 ≤ 15; decide), ?_⟩
      refine ⟨_, rfl, p, _, rfl, dget (k := Sum.inr o.s) upd_same (bit_at o ho _ _), _, rfl, _, rfl, _, rfl, _, _, rfl, rfl, .inl ⟨?_, ?_⟩, _, _, rfl, rfl, ?_⟩
      · show -(2 ^ 64 : Int) < 2 ^ i
        omega
      · show (2 ^ i : Int) < 2 ^ 64
        exact Int.pow_lt_pow_of_lt (by decide) (by omega)
      refine ⟨_, rfl, _, _, rfl, rfl, .inr ⟨by decide, by decide⟩, _, rfl, _, _, rfl, rfl, wide_div (b := 8) (by decide) (by decide) (by decide) (by decide), _, rfl, _, _, rfl, rfl, wide_div (b := 8) (by decide) (by decide) (by decide) (by decide), ?_⟩
      refine ⟨_, _, _, _, _, _, _, rfl, by omega, ?_, fun c u n => ?_⟩
      · rw [show 32 - i = (32 - (i + 1)) + 1 by omega] at e
        rw [show lb o (32 - (i + 1) + 1) x y = bit o (x % 2) (y % 2) + 2 * lb o (32 - (i + 1)) (x / 2) (y / 2) from rfl] at e
        rw [← e, Int.pow_succ, Int.mul_add, Int.mul_assoc]
        omega
      · have nc : c ≠ p := ne_of_none (sm _ _ n) np
        rw [upd_ne nc, upd_ne nc]
        exact sm _ _ n
    · rintro σ H' ⟨x, y, t, y5, y6, y7, y8, rfl, h32, e, sm⟩
      have e2 : t = lb o 32 (a % 4294967296) (b % 4294967296) := by
        rw [← e]
        show t = t + 2 ^ 32 * 0
        omega
      rw [← e2] at q
      exact ⟨_, rfl, q _ sm⟩
def sp_law_shifted : Sp := fun vs H Q _ => ∃ (o : Op) (a b : Int), vs = [.str o.s, .int a, .int b] ∧ (o = .shl ∨ o = .shr) ∧ W a ∧ Q (.int (act o a b)) H
theorem ok_law_shifted (T : Tx w K mg) : FnOk P w K mg base CX0 1 T.a_law_shifted T.d_law_shifted ["op", "a", "b"] sp_law_shifted := by
  refine T.F_law_shifted.ok sc_law_shifted (fun vs H Q E h => ?_) (fun cdv A outer s H vs Q E hr h => ?_)
  · obtain ⟨o, a, b, rfl, _⟩ := h
    rfl
  · obtain ⟨o, a, b, rfl, ho, wa, q⟩ := h
    refine ⟨_, (pss_cons (ps_for PassesOwn.never rfl (pi_range1 (by rfl) T.z_range (pa_cons (pe_op op_mod (pe_callTy call_int1 (by rfl) T.z_int (by decide +kernel) (pa_cons (pv 2) pa_nil)) pe_int) pa_nil)) (pg_name (i := 3) sc_law_shifted.nd rfl (.inl rfl)) (pss_one (ps_if (pt_cmpR op_eq (pv 0) pe_str (nomark _)) (pss_one (ps_set (i := 1) sc_law_shifted.nd rfl (.inl rfl) (pe_op op_mul (pv 1) pe_int))) (pss_one (ps_set (i := 1) sc_law_shifted.nd rfl (.inl rfl) (pe_op op_fdivW (pv 1) pe_int))))))
      (pss_one (ps_ret (pv 1)))), ?_⟩
    have hb0 : 0 ≤ b % 32 := Int.emod_nonneg _ (by decide)
    have hb1 : b % 32 < 32 := Int.emod_lt_of_pos _ (by decide)
    refine ⟨_, rfl, .inl ⟨_, rfl, _, _, rfl, rfl, (by show (0 : Int) < 32; decide), _, rfl, by show -(2 ^ 62 : Int) ≤ b % 32; omega, by show b % 32 < (2 ^ 62 : Int); omega, for_range (n := (b % 32).toNat) (fun i σ H' => ∃ (x : Int) (y : Option V), σ = [some (.str o.s), some (.int x), some (.int b), y] ∧ i ≤ 31 ∧ x = (if o = .shl then a * 2 ^ i else a / 2 ^ i) ∧ H' = H) ⟨a, none, rfl, by decide, by split <;> simp, rfl⟩ ?_ ?_⟩⟩
    · rintro i σ H' hi ⟨x, y, rfl, h31, e, rfl⟩
      have hp : (0 : Int) < 2 ^ i := Int.pow_pos (by decide)
      refine ⟨_, rfl, rfl, _, rfl, ite2 (fun z => ?_) (fun z => ?_)⟩
      · have eo : o = .shl := by
          rcases ho with rfl | rfl
          · rfl
          · exact absurd z (by decide +kernel)
        subst eo
        refine ⟨_, rfl, _, _, rfl, rfl, .inr ⟨by decide, by decide⟩, _, _, rfl, by omega, ?_, rfl⟩
        rw [e, if_pos rfl, if_pos rfl, Int.pow_succ, Int.mul_assoc]
      · have eo : o = .shr := by
          rcases ho with rfl | rfl
          · exact absurd (by decide +kernel) z
          · rfl
        subst eo
        refine ⟨_, rfl, _, _, rfl, rfl, wide_div (b := 8) (by decide) (by decide) (by decide) (by decide), _, _, rfl, by omega, ?_, rfl⟩
        rw [e, if_neg (by decide), if_neg (by decide), Int.pow_succ, Int.ediv_ediv_of_nonneg (by omega)]
    · rintro σ H' ⟨x, y, rfl, h31, e, rfl⟩
      have e3 : (Builtin.bitAnd b 31).toNat = (b % 32).toNat := by rw [bitAnd_m5]
      have e2 : act o a b = x := by
        rcases ho with rfl | rfl
        · rw [e, if_pos rfl, ← e3]
          rfl
        · rw [e, if_neg (by decide), ← e3]
          rfl
      rw [e2] at q
      exact ⟨_, rfl, q⟩
def sp_law_binary : Sp := fun vs H Q _ => ∃ (o : Op) (a b : Int), vs = [.str o.s, .int a, .int b] ∧ W a ∧ W b ∧ ∀ H', Same H H' → Q (.int (wrap (act o a b))) H'
def isRow : Op → Bool
  | .add | .sub | .mul | .lt | .le | .eq | .ne | .min | .max => true
  | _ => false
def rowVal : Op → Int → Int → Int
  | .add, a, b => a + b
  | .sub, a, b => a - b
  | .mul, a, b => a * b
  | .lt, a, b => if decide (a < b) = true then 1 else 0
  | .le, a, b => if decide (a ≤ b) = true then 1 else 0
  | .eq, a, b => if decide (V.int a = V.int b) = true then 1 else 0
  | .ne, a, b => if (!decide (V.int a = V.int b)) = true then 1 else 0
  | .min, a, b => if b < a then b else a
  | _, a, b => if b > a then b else a
theorem row_eq (o : Op) (h : isRow o = true) (a b : Int) : rowVal o a b = act o a b := by
  cases o <;> first | (cases h; done) | rfl | skip
  · show (if decide (a < b) = true then (1 : Int) else 0) = b1 (a < b)
    unfold b1
    by_cases z : a < b <;> simp [z]
  · show (if decide (a ≤ b) = true then (1 : Int) else 0) = b1 (a ≤ b)
    unfold b1
    by_cases z : a ≤ b <;> simp [z]
  · show (if decide (V.int a = V.int b) = true then (1 : Int) else 0) = b1 (a = b)
    unfold b1
    by_cases z : a = b <;> simp [z]
  · show (if (!decide (V.int a = V.int b)) = true then (1 : Int) else 0) = b1 (a ≠ b)
    unfold b1
    by_cases z : a = b <;> simp [z]
  · show (if b < a then b else a) = (if a < b then a else b)
    split <;> split <;> omega
  · show (if b > a then b else a) = (if b < a then a else b)
    split <;> split <;> omega
def rows6 (a b : Int) : List (Key × V) := [(Sum.inr "add", .int (a + b)), (Sum.inr "sub", .int (a - b)), (Sum.inr "mul", .int (a * b)), (Sum.inr "lt", .int (if decide (a < b) = true then 1 else 0)), (Sum.inr "le", .int (if decide (a ≤ b) = true then 1 else 0)), (Sum.inr "eq", .int (if decide (V.int a = V.int b) = true then 1 else 0))]
def rows9 (a b : Int) : List (Key × V) := putK (putK (putK (mergeK [] (rows6 a b)) (Sum.inr "ne") (.int (if (!decide (V.int a = V.int b)) = true then 1 else 0))) (Sum.inr "min") (.int (if b < a then b else a))) (Sum.inr "max") (.int (if b > a then b else a))
theorem row_at (o : Op) (h : isRow o = true) (a b : Int) : valV (rows9 a b) (Sum.inr o.s) = some (.int (rowVal o a b)) := by
  cases o <;> first | (cases h; done) | kernel_rfl
theorem len7 (a b : Int) (v : V) : (putK (mergeK [] (rows6 a b)) (Sum.inr "ne") v).length = 7 := by kernel_rfl
theorem len8 (a b : Int) (v u : V) : (putK (putK (mergeK [] (rows6 a b)) (Sum.inr "ne") v) (Sum.inr "min") u).length = 8 := by kernel_rfl
theorem inDR (o : Op) : inV (.str o.s) [.str "div", .str "rem"] = (match o with | .div | .rem => true | _ => false) := by
  cases o <;> rfl
theorem inBits (o : Op) : inV (.str o.s) [.str "and", .str "or", .str "xor"] = isBit o := by
  cases o <;> rfl
theorem inSh (o : Op) : inV (.str o.s) [.str "shl", .str "shr"] = (match o with | .shl | .shr => true | _ => false) := by
  cases o <;> rfl
theorem ok_law_binary (T : Tx w K mg) : FnOk P w K mg base CX0 2 T.a_law_binary T.d_law_binary ["op", "a", "b"] sp_law_binary := by
  refine T.F_law_binary.ok sc_law_binary (fun vs H Q E h => ?_) (fun cdv A outer s H vs Q E hr h => ?_)
  · obtain ⟨o, a, b, rfl, _⟩ := h
    rfl
  · obtain ⟨o, a, b, rfl, wa, wb, q⟩ := h
    refine ⟨_, (pss_cons (ps_if (pt_cmpR op_in_seq (pv 0) (pe_tup (pa_cons pe_str (pa_cons pe_str pa_nil))) (by rfl)) (pss_cons (ps_if (pt_cmpR op_eq (pv 2) pe_int (nomark _)) (pss_one (ps_ret pe_int)) pss_nil)
      (pss_cons (ps_set (i := 3) sc_law_binary.nd rfl (.inl rfl) (pe_op op_fdivW (pe_callB call_abs (by rfl) T.z_abs (by decide +kernel) (pa_cons (pv 1) pa_nil)) (pe_callB call_abs (by rfl) T.z_abs (by decide +kernel) (pa_cons (pv 2) pa_nil))))
      (C8.pss_cut (ps_if (pt_cmpR op_lt (pe_op op_mul (pv 1) (pv 2)) pe_int (nomark _)) (pss_one (ps_set (i := 3) sc_law_binary.nd rfl (.inl rfl) (pe_op op_sub pe_int (pv 3)))) pss_nil)
      (C8.pss_cut (ps_if (pt_cmpR op_eq (pv 0) pe_str (nomark _)) (pss_one (ps_set (i := 3) sc_law_binary.nd rfl (.inl rfl) (pe_op op_sub (pv 1) (pe_op op_mul (pv 3) (pv 2))))) pss_nil)
      (pss_one (ps_ret (pe_call (ok_law_wrapped T) (hr.mono (by decide)) (by rfl) T.g_law_wrapped T.F_law_wrapped.kp T.b_law_wrapped .nil pass0 (pa_cons (pv 3) pa_nil)))))))) pss_nil)
      (pss_cons (ps_if (pt_cmpR op_in_seq (pv 0) (pe_tup (pa_cons pe_str (pa_cons pe_str (pa_cons pe_str pa_nil)))) (by rfl)) (pss_one (ps_ret (pe_call (ok_law_wrapped T) (hr.mono (by decide)) (by rfl) T.g_law_wrapped T.F_law_wrapped.kp T.b_law_wrapped .nil pass0 (pa_cons (pe_call (ok_law_bits T) (hr.mono (by decide)) (by rfl) T.g_law_bits T.F_law_bits.kp T.b_law_bits .nil pass0 (pa_cons (pv 0) (pa_cons (pv 1) (pa_cons (pv 2) pa_nil)))) pa_nil)))) pss_nil)
      (pss_cons (ps_if (pt_cmpR op_in_seq (pv 0) (pe_tup (pa_cons pe_str (pa_cons pe_str pa_nil))) (by rfl)) (pss_one (ps_ret (pe_call (ok_law_wrapped T) (hr.mono (by decide)) (by rfl) T.g_law_wrapped T.F_law_wrapped.kp T.b_law_wrapped .nil pass0 (pa_cons (pe_call (ok_law_shifted T) (hr.mono (by decide)) (by rfl) T.g_law_shifted T.F_law_shifted.kp T.b_law_shifted .nil pass0 (pa_cons (pv 0) (pa_cons (pv 1) (pa_cons (pv 2) pa_nil)))) pa_nil)))) pss_nil)
      (pss_cons (ps_set (i := 4) sc_law_binary.nd rfl (.inl rfl) (pe_disp (pps_cons pe_str (pe_op op_add (pv 1) (pv 2)) (pps_cons pe_str (pe_op op_sub (pv 1) (pv 2)) (pps_cons pe_str (pe_op op_mul (pv 1) (pv 2)) (pps_cons pe_str (pe_callTy call_int1 (by rfl) T.z_int (by decide +kernel) (pa_cons (pe_cmpR op_lt (pv 1) (pv 2) (nomark _)) pa_nil)) (pps_cons pe_str (pe_callTy call_int1 (by rfl) T.z_int (by decide +kernel) (pa_cons (pe_cmpR op_le (pv 1) (pv 2) (nomark _)) pa_nil)) (pps_cons pe_str (pe_callTy call_int1 (by rfl) T.z_int (by decide +kernel) (pa_cons (pe_cmpR op_eq (pv 1) (pv 2) (nomark _)) pa_nil)) pps_nil)))))) (by rfl) (by rfl) (fun z => by cases z) (by decide)))
      (pss_cons (ps_dput (hu_of hr) (pv 4) pe_str (pe_callTy call_int1 (by rfl) T.z_int (by decide +kernel) (pa_cons (pe_cmpR op_ne (pv 1) (pv 2) (nomark _)) pa_nil)) rfl)
      (pss_cons (ps_dput (hu_of hr) (pv 4) pe_str (pe_callB (call_min2 rfl) (by rfl) T.z_min (by decide +kernel) (pa_cons (pv 1) (pa_cons (pv 2) pa_nil))) rfl)
      (pss_cons (ps_dput (hu_of hr) (pv 4) pe_str (pe_callB (call_max2 rfl) (by rfl) T.z_max (by decide +kernel) (pa_cons (pv 1) (pa_cons (pv 2) pa_nil))) rfl)
      (pss_one (ps_ret (pe_call (ok_law_wrapped T) (hr.mono (by decide)) (by rfl) T.g_law_wrapped T.F_law_wrapped.kp T.b_law_wrapped .nil pass0 (pa_cons (pe_dget (hu_of hr) (pv 4) (pv 0) (fun _ _ => rfl)) pa_nil))))))))))), ?_⟩
    refine ⟨_, rfl, (by show 2 ≤ sizeLine; decide), fun p np => ⟨p, _, rfl, .inr (SqT.of upd_same), rfl, rfl, _, rfl, ?_⟩⟩
    have s1 := same_new (o := .tup [.str "div", .str "rem"]) np
    refine ite2 (fun z => ?_) (fun z => ?_)
    · have z2 : inV (.str o.s) [.str "div", .str "rem"] = true := z
      rw [inDR] at z2
      have ho : o = .div ∨ o = .rem := by cases o <;> first | exact .inl rfl | exact .inr rfl | cases z2
      refine ⟨_, rfl, rfl, _, rfl, ite2 (fun e => ?_) (fun e => ?_)⟩
      · have hb : b = 0 := V.int.inj (of_decide_eq_true e)
        have e2 : act o a b = 0 := by rcases ho with rfl | rfl <;> exact if_pos hb
        rw [e2] at q
        exact q _ s1
      · have hb : ¬ b = 0 := fun z => e (decide_eq_true (by rw [z]))
        have hw : CDivW (ab a) (ab b) := by
          have h1 : (0 : Int) < ab b := by unfold ab; split <;> omega
          have h2 : (ab b).natAbs < 2 ^ 32 := by unfold W at wb; unfold ab; split <;> omega
          exact wide_div h1 h2 (by decide) (by decide)
        have hab : (-(2 ^ 64) < a ∧ a < 2 ^ 64) := by unfold W at wa; omega
        have hbb : (-(2 ^ 64) < b ∧ b < 2 ^ 64) := by unfold W at wb; omega
        refine ⟨_, rfl, _, rfl, _, rfl, _, rfl, _, _, rfl, rfl, hw, ?_⟩
        refine ⟨fun σ' H' => σ' = [some (.str o.s), some (.int a), some (.int b), some (.int (lquo a b)), none] ∧ Same H H', ?_, ?_⟩
        · refine ⟨_, rfl, _, rfl, _, _, rfl, rfl, .inl hab, _, _, rfl, rfl, _, rfl, ite2 (fun y => ?_) (fun y => ?_)⟩
          · refine ⟨_, rfl, _, _, rfl, rfl, ?_, s1⟩
            show [some (V.str o.s), some (V.int a), some (V.int b), some (V.int (0 - ab a / ab b)), none] = _
            unfold lquo
            rw [if_pos y]
          · refine ⟨?_, s1⟩
            show [some (V.str o.s), some (V.int a), some (V.int b), some (V.int (ab a / ab b)), none] = _
            unfold lquo
            rw [if_neg y]
        · rintro σ' H' ⟨rfl, sa⟩
          refine ⟨fun σ' H' => σ' = [some (.str o.s), some (.int a), some (.int b), some (.int (act o a b)), none] ∧ Same H H', ?_, ?_⟩
          · refine ⟨_, rfl, rfl, _, rfl, ite2 (fun y => ?_) (fun y => ?_)⟩
            · have eo : o = .rem := by
                rcases ho with rfl | rfl
                · exact absurd y (by decide +kernel)
                · rfl
              subst eo
              refine ⟨_, rfl, _, rfl, _, rfl, _, _, rfl, rfl, .inr hbb, _, _, rfl, rfl, ?_, sa⟩
              show [some (V.str Op.rem.s), some (V.int a), some (V.int b), some (V.int (a - lquo a b * b)), none] = [some (V.str Op.rem.s), some (V.int a), some (V.int b), some (V.int (if b = 0 then 0 else a - b * quo a b)), none]
              rw [if_neg hb, quo_eq a b hb, Int.mul_comm]
            · have eo : o = .div := by
                rcases ho with rfl | rfl
                · rfl
                · exact absurd (by decide +kernel) y
              subst eo
              refine ⟨?_, sa⟩
              rw [quo_eq a b hb]
              rfl
          · rintro σ' H' ⟨rfl, sb⟩
            refine ⟨_, rfl, _, rfl, ?_⟩
            rw [lwrap_eq]
            exact q _ sb
    · have z2 : ¬ inV (.str o.s) [.str "div", .str "rem"] = true := z
      rw [inDR] at z2
      refine ⟨_, rfl, (by show 3 ≤ sizeLine; decide), fun p2 np2 => ⟨p2, _, rfl, .inr (SqT.of upd_same), rfl, rfl, _, rfl, ?_⟩⟩
      have s2 := s1.trans (same_new (o := .tup [.str "and", .str "or", .str "xor"]) np2)
      refine ite2 (fun y => ?_) (fun y => ?_)
      · have ho : isBit o = true := by rw [← inBits]; exact y
        refine ⟨_, rfl, _, rfl, _, rfl, o, a, b, rfl, ho, fun H3 s3 => ⟨_, rfl, ?_⟩⟩
        have e : lwrap (lb o 32 (a % 4294967296) (b % 4294967296)) = wrap (act o a b) := by
          cases o <;> first | (cases ho; done) | exact lb_word_and a b | exact lb_word_or a b | exact lb_word_xor a b
        rw [e]
        exact q _ (s2.trans s3)
      · have y2 : ¬ isBit o = true := by rw [← inBits]; exact y
        refine ⟨_, rfl, (by show 2 ≤ sizeLine; decide), fun p3 np3 => ⟨p3, _, rfl, .inr (SqT.of upd_same), rfl, rfl, _, rfl, ?_⟩⟩
        have s3 := s2.trans (same_new (o := .tup [.str "shl", .str "shr"]) np3)
        refine ite2 (fun x => ?_) (fun x => ?_)
        · have x2 : inV (.str o.s) [.str "shl", .str "shr"] = true := x
          rw [inSh] at x2
          have ho : o = .shl ∨ o = .shr := by cases o <;> first | exact .inl rfl | exact .inr rfl | cases x2
          refine ⟨_, rfl, _, rfl, _, rfl, o, a, b, rfl, ho, wa, _, rfl, ?_⟩
          rw [lwrap_eq]
          exact q _ s3
        · have x2 : ¬ inV (.str o.s) [.str "shl", .str "shr"] = true := x
          rw [inSh] at x2
          have ho : isRow o = true := by cases o <;> first | rfl | exact absurd rfl z2 | exact absurd rfl y2 | exact absurd rfl x2
          have hab : (-(2 ^ 64) < a ∧ a < 2 ^ 64) := by unfold W at wa; omega
          intro d nd
          refine ⟨_, rfl, _, rfl, _, _, rfl, rfl, _, rfl, _, rfl, _, _, rfl, rfl, _, rfl, _, rfl, _, _, rfl, rfl, .inl hab, _, rfl, _, rfl, _, _, rfl, rfl, .inr ⟨_, rfl, _, rfl, _, rfl, _, _, rfl, rfl, .inr ⟨_, rfl, _, rfl, _, rfl, rfl, .inr ⟨_, rfl, ?_⟩⟩⟩⟩
          refine ⟨upd_same, rows6 a b, rfl, (by show 6 ≤ 15; decide), ?_⟩
          refine ⟨_, rfl, _, rfl, rfl, .inr ⟨_, rfl, _, rfl, d, _, rfl, DPut.k (k := Sum.inr "ne") upd_same (by show 6 < sizeLine; decide), ?_⟩⟩
          refine ⟨_, rfl, _, rfl, _, _, rfl, _, rfl, d, _, rfl, DPut.k (k := Sum.inr "min") upd_same ?_, ?_⟩
          · rw [len7]
            exact small1000 (by decide)
          refine ⟨_, rfl, _, rfl, _, _, rfl, _, rfl, d, _, rfl, DPut.k (k := Sum.inr "max") upd_same ?_, ?_⟩
          · rw [len8]
            exact small1000 (by decide)
          refine ⟨_, rfl, _, rfl, d, _, rfl, dget (k := Sum.inr o.s) upd_same (row_at o ho a b), _, rfl, ?_⟩
          rw [lwrap_eq, row_eq o ho]
          refine q _ fun c u n => ?_
          have nc : c ≠ d := ne_of_none (s3 _ _ n) nd
          rw [upd_ne nc, upd_ne nc, upd_ne nc, upd_ne nc, upd_ne nc]
          exact s3 _ _ n
def sp_law_unary : Sp := fun vs H Q _ => ∃ (o : Uop) (a : Int), vs = [.str o.s, .int a] ∧ W a ∧ ∀ H', Same H H' → Q (.int (wrap (uact o a))) H'
theorem urow_at (o : Uop) (h : o ≠ .zero) (a : Int) : valV (mergeK [] [((Sum.inr "neg" : Key), V.int (0 - a)), (Sum.inr "not", V.int (0 - a - 1))]) (Sum.inr o.s) = some (.int (uact o a)) := by
  cases o
  · show some (V.int (0 - a)) = some (V.int (-a))
    rw [Int.zero_sub]
  · show some (V.int (0 - a - 1)) = some (V.int (-a - 1))
    rw [Int.zero_sub]
  · exact absurd rfl h
theorem ok_law_unary (T : Tx w K mg) : FnOk P w K mg base CX0 2 T.a_law_unary T.d_law_unary ["op", "a"] sp_law_unary := by
  refine T.F_law_unary.ok sc_law_unary (fun vs H Q E h => ?_) (fun cdv A outer s H vs Q E hr h => ?_)
  · obtain ⟨o, a, rfl, _⟩ := h
    rfl
  · obtain ⟨o, a, rfl, wa, q⟩ := h
    refine ⟨_, (pss_cons (ps_if (pt_cmpR op_eq (pv 0) pe_str (nomark _)) (pss_one (ps_ret (pe_callTy call_int1 (by rfl) T.z_int (by decide +kernel) (pa_cons (pe_cmpR op_eq (pv 1) pe_int (nomark _)) pa_nil)))) pss_nil)
      (pss_one (ps_ret (pe_call (ok_law_wrapped T) (hr.mono (by decide)) (by rfl) T.g_law_wrapped T.F_law_wrapped.kp T.b_law_wrapped .nil pass0 (pa_cons (pe_dget (hu_of hr) (pe_disp (pps_cons pe_str (pe_op op_sub pe_int (pv 1)) (pps_cons pe_str (pe_op op_sub (pe_op op_sub pe_int (pv 1)) pe_int) pps_nil)) (by rfl) (by rfl) (fun z => by cases z) (by decide)) (pv 0) (fun _ _ => rfl)) pa_nil))))), ?_⟩
    refine ⟨_, rfl, rfl, _, rfl, ite2 (fun z => ?_) (fun z => ?_)⟩
    · have eo : o = .zero := by cases o <;> first | rfl | exact absurd z (by decide +kernel)
      subst eo
      refine ⟨_, rfl, rfl, .inr ⟨_, rfl, ?_⟩⟩
      have e2 : wrap (uact .zero a) = if decide (V.int a = V.int 0) = true then 1 else 0 := by
        show wrap (b1 (a = 0)) = _
        unfold b1
        by_cases h : a = 0
        · rw [if_pos h, if_pos (decide_eq_true (by rw [h]))]; rfl
        · rw [if_neg h, if_neg (fun y => h (V.int.inj (of_decide_eq_true y)))]; rfl
      rw [← e2]
      exact q _ (.refl H)
    · have ho : o ≠ .zero := fun e => by
        subst e
        exact z (by decide +kernel)
      intro d nd
      refine ⟨_, rfl, _, _, rfl, rfl, _, rfl, _, _, rfl, rfl, _, _, rfl, rfl, upd_same, [(Sum.inr "neg", _), (Sum.inr "not", _)], rfl, (by show 2 ≤ 15; decide), ?_⟩
      refine ⟨_, rfl, d, _, rfl, dget (k := Sum.inr o.s) upd_same (urow_at o ho a), _, rfl, ?_⟩
      rw [lwrap_eq]
      refine q _ fun c u n => ?_
      have nc : c ≠ d := ne_of_none n nd
      rw [upd_ne nc, upd_ne nc]
      exact n

def sp_law_word : Sp := fun vs H Q _ => ∃ p q : Addr, vs = [.ref p] ∧ Strm q H p ∧ ∀ (v : Int) H', W v → But p H H' → Strm q H' p → Q (.int v) H'
theorem rows_at {v : Int} (h0 : 0 ≤ v) (h1 : v < 16) : ∃ x, atI [V.int 0, .int 1, .int (-1), .int 2, .int 5, .int 31, .int 32, .int 33, .int (-32), .int (2 ^ (31 : Int).toNat - 1), .int (-(2 ^ (31 : Int).toNat)), .int (2 ^ (31 : Int).toNat - 2), .int (1 - 2 ^ (31 : Int).toNat), .int 65535, .int 65536, .int (-65536)] v = some (.int x) ∧ W x := by
  obtain ⟨n, rfl⟩ : ∃ n : Nat, v = (n : Int) := ⟨v.toNat, by omega⟩
  have hn : n < 16 := by omega
  match n, hn with
  | 0, _ => exact ⟨_, rfl, by unfold W; decide⟩
  | 1, _ => exact ⟨_, rfl, by unfold W; decide⟩
  | 2, _ => exact ⟨_, rfl, by unfold W; decide⟩
  | 3, _ => exact ⟨_, rfl, by unfold W; decide⟩
  | 4, _ => exact ⟨_, rfl, by unfold W; decide⟩
  | 5, _ => exact ⟨_, rfl, by unfold W; decide⟩
  | 6, _ => exact ⟨_, rfl, by unfold W; decide⟩
  | 7, _ => exact ⟨_, rfl, by unfold W; decide⟩
  | 8, _ => exact ⟨_, rfl, by unfold W; decide⟩
  | 9, _ => exact ⟨_, rfl, by unfold W; decide⟩
  | 10, _ => exact ⟨_, rfl, by unfold W; decide⟩
  | 11, _ => exact ⟨_, rfl, by unfold W; decide⟩
  | 12, _ => exact ⟨_, rfl, by unfold W; decide⟩
  | 13, _ => exact ⟨_, rfl, by unfold W; decide⟩
  | 14, _ => exact ⟨_, rfl, by unfold W; decide⟩
  | 15, _ => exact ⟨_, rfl, by unfold W; decide⟩
  | n + 16, h => omega
theorem ok_law_word (T : Tx w K mg) : FnOk P w K mg base CX0 2 T.a_law_word T.d_law_word ["stream"] sp_law_word := by
  refine T.F_law_word.ok sc_law_word (fun vs H Q E h => ?_) (fun cdv A outer s H vs Q E hr h => ?_)
  · obtain ⟨p, q, rfl, _⟩ := h
    rfl
  · obtain ⟨p, q, rfl, hS, k⟩ := h
    refine ⟨_, (pss_cons (ps_set (i := 1) sc_law_word.nd rfl (.inl rfl) (pe_lst (pa_cons pe_int (pa_cons pe_int (pa_cons (pe_un un_neg pe_int) (pa_cons pe_int (pa_cons pe_int (pa_cons pe_int (pa_cons pe_int (pa_cons pe_int (pa_cons (pe_un un_neg pe_int) (pa_cons (pe_op op_sub (pe_op op_pow pe_int pe_int) pe_int) (pa_cons (pe_un un_neg (pe_op op_pow pe_int pe_int)) (pa_cons (pe_op op_sub (pe_op op_pow pe_int pe_int) pe_int) (pa_cons (pe_op op_sub pe_int (pe_op op_pow pe_int pe_int)) (pa_cons pe_int (pa_cons pe_int (pa_cons (pe_un un_neg pe_int) pa_nil))))))))))))))))))
      (pss_cons (ps_if (pt_cmpR op_eq (pe_call (ok_law_draw T) (hr.mono (by decide)) (by rfl) T.g_law_draw T.F_law_draw.kp T.b_law_draw .nil pass0 (pa_cons (pv 0) (pa_cons pe_int pa_nil))) pe_int (nomark _)) (pss_one (ps_ret (pe_op op_sub (pe_call (ok_law_draw T) (hr.mono (by decide)) (by rfl) T.g_law_draw T.F_law_draw.kp T.b_law_draw .nil pass0 (pa_cons (pv 0) (pa_cons (pe_op op_pow pe_int pe_int) pa_nil))) (pe_op op_pow pe_int pe_int)))) pss_nil)
      (pss_one (ps_ret (pe_ix ix_list (pv 1) (pe_call (ok_law_draw T) (hr.mono (by decide)) (by rfl) T.g_law_draw T.F_law_draw.kp T.b_law_draw .nil pass0 (pa_cons (pv 0) (pa_cons (pe_callB call_len_seq (by rfl) T.z_len (by decide +kernel) (pa_cons (pv 1) pa_nil)) pa_nil))) (fun _ _ => rfl)))))), ?_⟩
    have cp : CPow 2 31 := ⟨by decide, by decide, by decide⟩
    refine ⟨_, rfl, _, rfl, _, _, rfl, rfl, cp, _, _, rfl, rfl, _, _, rfl, rfl, cp, _, rfl, _, _, rfl, rfl, cp, _, _, rfl, rfl, _, _, rfl, rfl, cp, _, _, rfl, rfl, _, rfl, (by show 16 ≤ sizeLine; decide), fun l nl => ?_⟩
    refine ⟨_, rfl, p, q, 3, rfl, hS.same (same_new nl), by decide, by decide, fun v H1 v0 v1 b1 s1 => ?_⟩
    have npl : l ≠ p := hS.nep nl
    have hl : H1 l = _ := b1 _ _ npl upd_same
    have bb : But p H H1 := fun b o n e => b1 b o n (by rw [upd_ne (ne_of_none e nl)]; exact e)
    refine ⟨rfl, _, rfl, ite2 (fun z => ?_) (fun z => ?_)⟩
    · refine ⟨_, rfl, _, _, rfl, rfl, ⟨by decide, by decide, by decide⟩, p, q, _, rfl, s1, by decide, by decide, fun u H2 u0 u1 b2 s2 => ?_⟩
      refine ⟨_, _, rfl, rfl, cp, _, _, rfl, rfl, k _ _ ?_ (bb.trans b2) s2⟩
      have e1 : (2 : Int) ^ (32 : Int).toNat = 4294967296 := by decide
      have e2 : (2 : Int) ^ (31 : Int).toNat = 2147483648 := by decide
      rw [e1] at u1
      unfold W
      rw [e2]
      omega
    · refine ⟨_, rfl, _, rfl, _, rfl, l, _, rfl, .inl (SqL.of hl), p, q, _, rfl, s1, by decide, by decide, fun u H2 u0 u1 b2 s2 => ?_⟩
      have hl2 : H2 l = _ := b2 _ _ npl hl
      obtain ⟨x, ex, wx⟩ := rows_at u0 u1
      exact ⟨l, _, _, _, rfl, rfl, SqL.of hl2, ex, k _ _ wx (bb.trans b2) s2⟩
/-! ### the law's instructions -/
theorem passX {X : Cx} : Passes (L2.CX X.prog X.w) X E0 := fun _ _ _ _ _ _ _ ⟨_, _, _, _, _, _, _, _, _, _, _, _, h⟩ => h.elim
theorem pickI (xs : List Int) {u : Int} (u0 : 0 ≤ u) (u1 : u < xs.length) : ∃ x ∈ xs, atI (xs.map V.int) u = some (.int x) := by
  obtain ⟨n, rfl⟩ : ∃ n : Nat, u = (n : Int) := ⟨u.toNat, by omega⟩
  have hn : n < xs.length := by omega
  exact ⟨xs[n], List.getElem_mem hn, atI_nat (by rw [List.getElem?_map, List.getElem?_eq_getElem hn]; rfl)⟩
theorem pickS (xs : List Str) {u : Int} (u0 : 0 ≤ u) (u1 : u < xs.length) : ∃ x ∈ xs, atI (xs.map V.str) u = some (.str x) := by
  obtain ⟨n, rfl⟩ : ∃ n : Nat, u = (n : Int) := ⟨u.toNat, by omega⟩
  have hn : n < xs.length := by omega
  exact ⟨xs[n], List.getElem_mem hn, atI_nat (by rw [List.getElem?_map, List.getElem?_eq_getElem hn]; rfl)⟩
/-- the stream gives, nothing else changes but it -/
structure Sg (q p : Addr) (H0 H : Hp) : Prop where
  but : But p H0 H
  str : Strm q H p
theorem Sg.draw {q p : Addr} {H0 H H' : Hp} (S : Sg q p H0 H) (b : But p H H') (s : Strm q H' p) : Sg q p H0 H' := ⟨S.but.trans b, s⟩
theorem Sg.new {q p D : Addr} {H0 H : Hp} {o : HO} (S : Sg q p H0 H) (n : H D = none) : Sg q p H0 (L2.upd H D o) := ⟨S.but.same (same_new5 n), S.str.same (same_new5 n)⟩
/-- an element of a list that was laid before a draw -/
theorem Sg.kept {q p D : Addr} {H H' : Hp} {xs : List V} (s : Strm q H p) (n : H D = none) (b : But p (L2.upd H D (.lst xs)) H') : SqL K H' D xs := SqL.of (b _ _ (s.nep n) upd_same)
def sp_law_register : Sp := fun vs H Q _ => ∃ p q : Addr, vs = [.ref p] ∧ Strm q H p ∧ ∀ (d : Nat) H', d < 8 → But p H H' → Strm q H' p → Q (.int (d : Int)) H'
theorem ok_law_register (T : Tx w K mg) : FnOk P w K mg base CX0 2 T.a_law_register T.d_law_register ["stream"] sp_law_register := by
  refine T.F_law_register.ok sc_law_register (fun vs H Q E h => ?_) (fun cdv A outer s H vs Q E hr h => ?_)
  · obtain ⟨p, q, rfl, _⟩ := h
    rfl
  · obtain ⟨p, q, rfl, S, k⟩ := h
    refine ⟨_, (pss_one (ps_ret (pe_call (ok_law_draw T) (hr.mono (by decide)) (by rfl) T.g_law_draw T.F_law_draw.kp T.b_law_draw .nil pass0 (pa_cons (pv 0) (pa_cons (pe_ix ix_list (pe_lst (pa_cons pe_int (pa_cons pe_int (pa_cons pe_int pa_nil)))) (pe_call (ok_law_draw T) (hr.mono (by decide)) (by rfl) T.g_law_draw T.F_law_draw.kp T.b_law_draw .nil pass0 (pa_cons (pv 0) (pa_cons pe_int pa_nil))) (fun _ _ => rfl)) pa_nil))))), ?_⟩
    refine ⟨_, rfl, by walk_at "size", fun D nD => ⟨_, rfl, p, q, 3, rfl, S.same (same_new5 nD), by decide, by decide, fun u H1 u0 u1 b s => ?_⟩⟩
    obtain ⟨x, mx, ex⟩ := pickI [4, 4, 8] u0 u1
    have bx : 0 < x ∧ x ≤ 8 := by
      simp only [List.mem_cons, List.not_mem_nil, or_false] at mx
      omega
    refine ⟨D, _, u, .int x, rfl, rfl, Sg.kept S nD b, ex, p, q, x, rfl, s, bx.1, by omega, fun v H2 v0 v1 b2 s2 => ?_⟩
    obtain ⟨d, rfl⟩ : ∃ d : Nat, v = (d : Int) := ⟨v.toNat, by omega⟩
    exact k d H2 (by omega) (((But.refl).same (same_new5 nD)).trans (b.trans b2)) s2
/-! ### tuples stand, whatever lists do -/
structure Tk (H H' : Hp) : Prop where
  tup : ∀ b xs, H b = some (.tup xs) → H' b = some (.tup xs)
  frz : ∀ b o xs, H b = some (.frz o (.tup xs)) → H' b = some (.frz o (.tup xs))
theorem Tk.refl {H : Hp} : Tk H H := ⟨fun _ _ h => h, fun _ _ _ h => h⟩
theorem Tk.trans {H H1 H2 : Hp} (a : Tk H H1) (b : Tk H1 H2) : Tk H H2 := ⟨fun c xs h => b.tup c xs (a.tup c xs h), fun c o xs h => b.frz c o xs (a.frz c o xs h)⟩
theorem Same.tk {H H' : Hp} (s : Same H H') : Tk H H' := ⟨fun b _ h => s b _ h, fun b _ _ h => s b _ h⟩
theorem Tk.but {q p : Addr} {H H' : Hp} (S : Strm q H p) (b : But p H H') : Tk H H' := by
  obtain ⟨_, _, _, _, e, _⟩ := S
  exact ⟨fun c xs h => b c _ (fun z => by rw [z, e] at h; cases h) h, fun c o xs h => b c _ (fun z => by rw [z, e] at h; cases h) h⟩
theorem Tk.upd {H : Hp} {a : Addr} {xs : List V} {o : HO} (h : H a = some (.lst xs)) : Tk H (L2.upd H a o) :=
  ⟨fun c ys g => by rw [upd_ne (fun z => by rw [z, h] at g; cases g)]; exact g, fun c u ys g => by rw [upd_ne (fun z => by rw [z, h] at g; cases g)]; exact g⟩
theorem SqT.tk {K : PySem.W.Frag} {H H' : Hp} {a : Addr} {xs : List V} (t : Tk H H') (h : SqT K H a xs) : SqT K H' a xs := by
  rcases h with (h | ⟨o, h⟩) | h
  · exact .inl (.inl (t.tup _ _ h))
  · exact .inl (.inr ⟨o, t.frz _ _ _ h⟩)
  · exact .inr h
mutual
def noL : PyData → Bool
  | .none | .bool _ | .int _ | .str _ => true
  | .tuple ds => noLs ds
  | _ => false
def noLs : List PyData → Bool
  | [] => true
  | d :: ds => noL d && noLs ds
end
mutual
theorem Dp.tk {K : PySem.W.Frag} {H H' : Hp} (t : Tk H H') : ∀ {v : V} {d : PyData}, noL d = true → Dp K H v d → Dp K H' v d
  | _, _, _, .non => .non
  | _, _, _, .bl b => .bl b
  | _, _, _, .int i => .int i
  | _, _, _, .str x => .str x
  | _, _, e, .lst _ _ => by cases e
  | _, _, e, .tup h r => .tup (SqT.tk t h) (DpAll.tk t e r)
theorem DpAll.tk {K : PySem.W.Frag} {H H' : Hp} (t : Tk H H') : ∀ {vs : List V} {ds : List PyData}, noLs ds = true → DpAll K H vs ds → DpAll K H' vs ds
  | _, _, _, .nil => .nil
  | _, _, e, .cons h r => by
    have e' := Bool.and_eq_true_iff.mp (show (noL _ && noLs _) = true from e)
    exact .cons (Dp.tk t e'.1 h) (DpAll.tk t e'.2 r)
end
theorem noLs_ints : ∀ xs : List Int, noLs (xs.map PyData.int) = true
  | [] => rfl
  | _ :: r => by
    show (true && noLs (r.map PyData.int)) = true
    rw [noLs_ints r]; rfl
theorem noLs_flat : ∀ ds : List PyData, ds.all isF = true → noLs ds = true
  | [], _ => rfl
  | d :: ds, e => by
    have e' := Bool.and_eq_true_iff.mp (by rw [List.all_cons] at e; exact e)
    show (noL d && noLs ds) = true
    rw [noLs_flat ds e'.2]
    cases d <;> first | rfl | (cases e'.1)
theorem noLs_all : ∀ ds : List PyData, (∀ d ∈ ds, noL d = true) → noLs ds = true
  | [], _ => rfl
  | d :: ds, h => by
    show (noL d && noLs ds) = true
    rw [h d (.head _), noLs_all ds fun x m => h x (.tail _ m)]; rfl
set_option hygiene false
local macro_rules | `(tactic| walk_at "dr") => `(tactic| (refine ⟨_, rfl, p, q, _, rfl, S.str, (by first | decide | omega), (by first | decide | omega), fun u Hu u0 u1 b s => ?_⟩; replace S := S.draw b s; clear b s))
local macro_rules | `(tactic| walk_at "rg") => `(tactic| (refine ⟨_, rfl, p, q, rfl, S.str, fun g Hu hg b s => ?_⟩; replace S := S.draw b s; clear b s))
local macro_rules | `(tactic| walk_at "ls") => `(tactic| (refine ⟨by walk_at "size", fun D nD => ?_⟩; refine ⟨_, rfl, p, q, _, rfl, (S.new nD).str, (by first | decide | omega), (by first | decide | omega), fun u Hu u0 u1 b s => ?_⟩))
local macro_rules | `(tactic| walk_at "ix") => `(tactic| (refine ⟨D, _, u, _, rfl, rfl, Sg.kept S.str nD b, ex, ?_⟩; replace S := (S.new nD).draw b s; clear nD b s ex u0 u1))
set_option hygiene true
theorem pickM {α : Type} (f : α → V) (xs : List α) {u : Int} (u0 : 0 ≤ u) (u1 : u < xs.length) : ∃ x ∈ xs, atI (xs.map f) u = some (f x) := by
  obtain ⟨n, rfl⟩ : ∃ n : Nat, u = (n : Int) := ⟨u.toNat, by omega⟩
  have hn : n < xs.length := by omega
  exact ⟨xs[n], List.getElem_mem hn, atI_nat (by rw [List.getElem?_map, List.getElem?_eq_getElem hn]; rfl)⟩
theorem and_split {A : Bool} {Bg X Y : Prop} (hB : A = true → Y → Bg) (hY : Y) : if A = true then Bg else (if false = true then X else Y) := by
  cases A with
  | true => rw [if_pos rfl]; exact hB rfl hY
  | false => rw [if_neg Bool.false_ne_true, if_neg Bool.false_ne_true]; exact hY
def foldsS : List Str := ["add", "min", "max", "and", "or", "xor"]
def arrsL : List Int := [0, 2, 6, 7, 8, 6]
/-- an instruction of the law's code -/
def CI.ok61 (many loc : Nat) : CI → Prop
  | .word d n => d < 8 ∧ n ∈ [0, 1, 2, -1, 7] | .param d k => d < 8 ∧ (k = 1 ∨ k = 3 ∨ k = 4) | .special d _ => d < 8 | .copy d r => d < 8 ∧ r < 8
  | .unary _ d r => d < 8 ∧ r < 8 | .binary _ d r t => d < 8 ∧ r < 8 ∧ t < 8
  | .load d a r => d < 8 ∧ a ∈ arrsL ∧ r < 8 | .store a r t => a ∈ arrsL ∧ r < 8 ∧ t < 8 | .atomic f a r t => f ∈ foldsS ∧ a ∈ arrsL ∧ r < 8 ∧ t < 8
  | .barrier n => 0 ≤ n ∧ n < 2 | .collect f d r n => f ∈ foldsS ∧ d < 8 ∧ r < 8 ∧ 0 ≤ n ∧ n < 2
  | .get d n => d < 8 ∧ n < loc | .keep n r => n < loc ∧ r < 8 | .jump k => 0 ≤ k ∧ k < many | .branch r k j => r < 8 ∧ 0 ≤ k ∧ k < many ∧ 0 ≤ j ∧ j ≤ many | .exit => True
theorem CI.short (c : CI) : c.ds.length ≤ 5 := by cases c <;> exact Nat.le_of_ble_eq_true rfl
def sp_law_plain (K : PySem.W.Frag) : Sp := fun vs H Q _ => ∃ (p q : Addr) (loc many : Nat), vs = [.ref p, .int (loc : Int)] ∧ Strm q H p ∧ loc ≤ 6 ∧ ∀ (v : V) H' c, CI.ok61 many loc c → Sg q p H H' → Dp K H' v c.d → Q v H'
set_option maxHeartbeats 2000000 in
theorem ok_law_plain_instruction (T : Tx w K mg) : FnOk P w K mg base CX0 3 T.a_law_plain_instruction T.d_law_plain_instruction ["stream", "local"] (sp_law_plain K) := by
  refine T.F_law_plain_instruction.ok sc_law_plain_instruction (fun vs H Q E h => ?_) (fun cdv A outer s H vs Q E hr h => ?_)
  · obtain ⟨p, q, loc, many, rfl, _⟩ := h
    rfl
  · obtain ⟨p, q, loc, many, rfl, hS, l6, k⟩ := h
    refine ⟨_, (pss_cons (ps_set (i := 2) sc_law_plain_instruction.nd rfl (.inl rfl) (pe_call (ok_law_draw T) (hr.mono (by decide)) (by rfl) T.g_law_draw T.F_law_draw.kp T.b_law_draw .nil pass0 (pa_cons (pv 0) (pa_cons pe_int pa_nil))))
      (pss_cons (ps_set (i := 3) sc_law_plain_instruction.nd rfl (.inl rfl) (pe_call (ok_law_register T) (hr.mono (by decide)) (by rfl) T.g_law_register T.F_law_register.kp T.b_law_register .nil pass0 (pa_cons (pv 0) pa_nil)))
      (pss_cons (ps_set (i := 4) sc_law_plain_instruction.nd rfl (.inl rfl) (pe_call (ok_law_register T) (hr.mono (by decide)) (by rfl) T.g_law_register T.F_law_register.kp T.b_law_register .nil pass0 (pa_cons (pv 0) pa_nil)))
      (pss_cons (ps_if (pt_cmpR op_eq (pv 2) pe_int (nomark _)) (pss_one (ps_ret (pe_tup (pa_cons pe_str (pa_cons (pv 3) (pa_cons (pe_ix ix_list (pe_lst (pa_cons pe_int (pa_cons pe_int (pa_cons pe_int (pa_cons (pe_un un_neg pe_int) (pa_cons pe_int pa_nil)))))) (pe_call (ok_law_draw T) (hr.mono (by decide)) (by rfl) T.g_law_draw T.F_law_draw.kp T.b_law_draw .nil pass0 (pa_cons (pv 0) (pa_cons pe_int pa_nil))) (fun _ _ => rfl)) pa_nil)))))) pss_nil)
      (pss_cons (ps_if (pt_cmpR op_eq (pv 2) pe_int (nomark _)) (pss_one (ps_ret (pe_tup (pa_cons pe_str (pa_cons (pv 3) (pa_cons (pe_ix ix_list (pe_lst (pa_cons pe_int (pa_cons pe_int (pa_cons pe_int pa_nil)))) (pe_call (ok_law_draw T) (hr.mono (by decide)) (by rfl) T.g_law_draw T.F_law_draw.kp T.b_law_draw .nil pass0 (pa_cons (pv 0) (pa_cons pe_int pa_nil))) (fun _ _ => rfl)) pa_nil)))))) pss_nil)
      (pss_cons (ps_if (pt_cmpR op_eq (pv 2) pe_int (nomark _)) (pss_one (ps_ret (pe_tup (pa_cons pe_str (pa_cons (pv 3) (pa_cons (pe_ix ix_list (pe_lst (pa_cons pe_str (pa_cons pe_str (pa_cons pe_str (pa_cons pe_str (pa_cons pe_str pa_nil)))))) (pe_call (ok_law_draw T) (hr.mono (by decide)) (by rfl) T.g_law_draw T.F_law_draw.kp T.b_law_draw .nil pass0 (pa_cons (pv 0) (pa_cons pe_int pa_nil))) (fun _ _ => rfl)) pa_nil)))))) pss_nil)
      (pss_cons (ps_if (pt_cmpR op_eq (pv 2) pe_int (nomark _)) (pss_one (ps_ret (pe_tup (pa_cons pe_str (pa_cons (pv 3) (pa_cons (pv 4) pa_nil)))))) pss_nil)
      (pss_cons (ps_if (pt_cmpR op_eq (pv 2) pe_int (nomark _)) (pss_one (ps_ret (pe_tup (pa_cons pe_str (pa_cons (pe_ix ix_list (pe_lst (pa_cons pe_str (pa_cons pe_str (pa_cons pe_str pa_nil)))) (pe_call (ok_law_draw T) (hr.mono (by decide)) (by rfl) T.g_law_draw T.F_law_draw.kp T.b_law_draw .nil pass0 (pa_cons (pv 0) (pa_cons pe_int pa_nil))) (fun _ _ => rfl)) (pa_cons (pv 3) (pa_cons (pv 4) pa_nil))))))) pss_nil)
      (pss_cons (ps_if (PW.pt (pw_and (pt_cmpR op_eq (pv 2) pe_int (nomark _)) (pw_and1 (pt_cmpR op_gt (pv 1) pe_int (nomark _))))) (pss_one (ps_ret (pe_tup (pa_cons pe_str (pa_cons (pv 3) (pa_cons (pe_call (ok_law_draw T) (hr.mono (by decide)) (by rfl) T.g_law_draw T.F_law_draw.kp T.b_law_draw .nil pass0 (pa_cons (pv 0) (pa_cons (pv 1) pa_nil))) pa_nil)))))) pss_nil)
      (pss_cons (ps_if (PW.pt (pw_and (pt_cmpR op_eq (pv 2) pe_int (nomark _)) (pw_and1 (pt_cmpR op_gt (pv 1) pe_int (nomark _))))) (pss_one (ps_ret (pe_tup (pa_cons pe_str (pa_cons (pe_call (ok_law_draw T) (hr.mono (by decide)) (by rfl) T.g_law_draw T.F_law_draw.kp T.b_law_draw .nil pass0 (pa_cons (pv 0) (pa_cons (pv 1) pa_nil))) (pa_cons (pv 4) pa_nil)))))) pss_nil)
      (pss_cons (ps_set (i := 5) sc_law_plain_instruction.nd rfl (.inl rfl) (pe_lst (pa_cons pe_str (pa_cons pe_str (pa_cons pe_str (pa_cons pe_str (pa_cons pe_str (pa_cons pe_str (pa_cons pe_str (pa_cons pe_str pa_nil))))))))))
      (pss_one (ps_ret (pe_tup (pa_cons pe_str (pa_cons (pe_ix ix_list (pv 5) (pe_call (ok_law_draw T) (hr.mono (by decide)) (by rfl) T.g_law_draw T.F_law_draw.kp T.b_law_draw .nil pass0 (pa_cons (pv 0) (pa_cons pe_int pa_nil))) (fun _ _ => rfl)) (pa_cons (pv 3) (pa_cons (pv 4) (pa_cons (pe_call (ok_law_register T) (hr.mono (by decide)) (by rfl) T.g_law_register T.F_law_register.kp T.b_law_register .nil pass0 (pa_cons (pv 0) pa_nil)) pa_nil))))))))))))))))))), ?_⟩
    have S : Sg q p H H := ⟨.refl, hS⟩
    clear hS
    walk_at "dr"
    obtain ⟨pick, rfl⟩ : ∃ x : Int, x = u := ⟨u, rfl⟩
    clear u0 u1
    walk_at "rg"
    obtain ⟨d, rfl, hd⟩ : ∃ x : Nat, x = g ∧ x < 8 := ⟨g, rfl, hg⟩
    clear hg
    walk_at "rg"
    obtain ⟨r, rfl, hrr⟩ : ∃ x : Nat, x = g ∧ x < 8 := ⟨g, rfl, hg⟩
    clear hg
    have fin : ∀ {Hz : Hp} (c : CI), CI.ok61 many loc c → Sg q p H Hz → c.ds.length ≤ sizeLine ∧ ∀ t, Hz t = none → Q (.ref t) (L2.upd Hz t (.tup (c.ds.map fV))) := fun c ok S => ⟨Nat.le_of_lt (small1000 (by have := c.short; omega)), fun t nt => k _ _ c ok (S.new nt) (Dp.ofFlat sqT_laid c.flat)⟩
    refine ⟨_, rfl, rfl, _, rfl, ite2 (fun z => ?_) (fun z => ?_)⟩
    · refine ⟨_, rfl, _, rfl, ?_⟩
      walk_at "ls"
      obtain ⟨x, mx, ex⟩ := pickI [0, 1, 2, -1, 7] u0 u1
      walk_at "ix"
      exact fin (.word d x) ⟨hd, mx⟩ S
    refine ⟨_, rfl, rfl, _, rfl, ite2 (fun z => ?_) (fun z => ?_)⟩
    · refine ⟨_, rfl, ?_⟩
      walk_at "ls"
      obtain ⟨x, mx, ex⟩ := pickM (fun k : Nat => V.int (k : Int)) [1, 3, 4] u0 u1
      walk_at "ix"
      exact fin (.param d x) ⟨hd, by simpa using mx⟩ S
    refine ⟨_, rfl, rfl, _, rfl, ite2 (fun z => ?_) (fun z => ?_)⟩
    · refine ⟨_, rfl, ?_⟩
      walk_at "ls"
      obtain ⟨x, mx, ex⟩ := pickM (fun x : Sp4 => V.str x.s) [.tid, .bid, .dim, .grid, .tid] u0 u1
      walk_at "ix"
      exact fin (.special d x) hd S
    refine ⟨_, rfl, rfl, _, rfl, ite2 (fun z => ?_) (fun z => ?_)⟩
    · exact ⟨_, rfl, _, rfl, fin (.copy d r) ⟨hd, hrr⟩ S⟩
    refine ⟨_, rfl, rfl, _, rfl, ite2 (fun z => ?_) (fun z => ?_)⟩
    · walk_at "ls"
      obtain ⟨x, mx, ex⟩ := pickM (fun x : Uop => V.str x.s) [.neg, .not, .zero] u0 u1
      walk_at "ix"
      exact ⟨_, rfl, _, rfl, fin (.unary x d r) ⟨hd, hrr⟩ S⟩
    refine ⟨_, rfl, rfl, _, rfl, and_split (fun z hY => ?_) ?_⟩
    · refine ⟨_, rfl, _, _, rfl, rfl, _, rfl, ite2 (fun z4 => ?_) (fun _ => hY)⟩
      have lp : (0 : Int) < loc := of_decide_eq_true z4
      clear hY
      refine ⟨_, rfl, _, rfl, ?_⟩
      walk_at "dr"
      obtain ⟨n, rfl, n1⟩ : ∃ x : Nat, (x : Int) = u ∧ x < loc := ⟨u.toNat, by omega, by omega⟩
      exact fin (.get d n) ⟨hd, n1⟩ S
    refine ⟨_, rfl, rfl, _, rfl, and_split (fun z hY => ?_) ?_⟩
    · refine ⟨_, rfl, _, _, rfl, rfl, _, rfl, ite2 (fun z4 => ?_) (fun _ => hY)⟩
      have lp : (0 : Int) < loc := of_decide_eq_true z4
      clear hY
      refine ⟨_, rfl, ?_⟩
      walk_at "dr"
      obtain ⟨n, rfl, n1⟩ : ∃ x : Nat, (x : Int) = u ∧ x < loc := ⟨u.toNat, by omega, by omega⟩
      exact ⟨_, rfl, fin (.keep n r) ⟨n1, hrr⟩ S⟩
    refine ⟨by walk_at "size", fun D nD => ?_⟩
    refine ⟨_, rfl, _, rfl, p, q, _, rfl, (S.new nD).str, by decide, by decide, fun u Hu u0 u1 b s => ?_⟩
    obtain ⟨x, mx, ex⟩ := pickM (fun x : Op => V.str x.s) [.add, .sub, .mul, .and, .xor, .lt, .eq, .max] u0 u1
    walk_at "ix"
    refine ⟨_, rfl, _, rfl, ?_⟩
    walk_at "rg"
    exact fin (.binary x d r g) ⟨hd, hrr, hg⟩ S
def sp_law_ins61 (K : PySem.W.Frag) : Sp := fun vs H Q _ => ∃ (p q : Addr) (loc many : Nat), vs = [.ref p, .int (many : Int), .int (loc : Int)] ∧ Strm q H p ∧ loc ≤ 6 ∧ 0 < many ∧ many < 100 ∧ ∀ (v : V) H' c, CI.ok61 many loc c → Sg q p H H' → Dp K H' v c.d → Q v H'
set_option maxHeartbeats 2000000 in
theorem ok_law_instruction (T : Tx w K mg) : FnOk P w K mg base CX0 4 T.a_law_instruction T.d_law_instruction ["stream", "many", "local"] (sp_law_ins61 K) := by
  refine T.F_law_instruction.ok sc_law_instruction (fun vs H Q E h => ?_) (fun cdv A outer s H vs Q E hr h => ?_)
  · obtain ⟨p, q, loc, many, rfl, _⟩ := h
    rfl
  · obtain ⟨p, q, loc, many, rfl, hS, l6, m0, m1, k⟩ := h
    refine ⟨_, (pss_cons (ps_set (i := 3) sc_law_instruction.nd rfl (.inl rfl) (pe_call (ok_law_draw T) (hr.mono (by decide)) (by rfl) T.g_law_draw T.F_law_draw.kp T.b_law_draw .nil pass0 (pa_cons (pv 0) (pa_cons pe_int pa_nil))))
      (pss_cons (ps_set (i := 4) sc_law_instruction.nd rfl (.inl rfl) (pe_call (ok_law_register T) (hr.mono (by decide)) (by rfl) T.g_law_register T.F_law_register.kp T.b_law_register .nil pass0 (pa_cons (pv 0) pa_nil)))
      (pss_cons (ps_set (i := 5) sc_law_instruction.nd rfl (.inl rfl) (pe_ix ix_list (pe_lst (pa_cons pe_int (pa_cons pe_int (pa_cons pe_int (pa_cons pe_int (pa_cons pe_int (pa_cons pe_int pa_nil))))))) (pe_call (ok_law_draw T) (hr.mono (by decide)) (by rfl) T.g_law_draw T.F_law_draw.kp T.b_law_draw .nil pass0 (pa_cons (pv 0) (pa_cons pe_int pa_nil))) (fun _ _ => rfl)))
      (pss_cons (ps_set (i := 6) sc_law_instruction.nd rfl (.inl rfl) (pe_ix ix_list (pe_lst (pa_cons pe_str (pa_cons pe_str (pa_cons pe_str (pa_cons pe_str (pa_cons pe_str (pa_cons pe_str pa_nil))))))) (pe_call (ok_law_draw T) (hr.mono (by decide)) (by rfl) T.g_law_draw T.F_law_draw.kp T.b_law_draw .nil pass0 (pa_cons (pv 0) (pa_cons pe_int pa_nil))) (fun _ _ => rfl)))
      (pss_cons (ps_if (pt_cmpR op_eq (pv 3) pe_int (nomark _)) (pss_one (ps_ret (pe_tup (pa_cons pe_str (pa_cons (pe_call (ok_law_register T) (hr.mono (by decide)) (by rfl) T.g_law_register T.F_law_register.kp T.b_law_register .nil pass0 (pa_cons (pv 0) pa_nil)) (pa_cons (pv 5) (pa_cons (pv 4) pa_nil))))))) pss_nil)
      (pss_cons (ps_if (pt_cmpR op_eq (pv 3) pe_int (nomark _)) (pss_one (ps_ret (pe_tup (pa_cons pe_str (pa_cons (pv 5) (pa_cons (pv 4) (pa_cons (pe_call (ok_law_register T) (hr.mono (by decide)) (by rfl) T.g_law_register T.F_law_register.kp T.b_law_register .nil pass0 (pa_cons (pv 0) pa_nil)) pa_nil))))))) pss_nil)
      (pss_cons (ps_if (pt_cmpR op_eq (pv 3) pe_int (nomark _)) (pss_one (ps_ret (pe_tup (pa_cons pe_str (pa_cons (pv 6) (pa_cons (pv 5) (pa_cons (pv 4) (pa_cons (pe_call (ok_law_register T) (hr.mono (by decide)) (by rfl) T.g_law_register T.F_law_register.kp T.b_law_register .nil pass0 (pa_cons (pv 0) pa_nil)) pa_nil)))))))) pss_nil)
      (pss_cons (ps_if (pt_cmpR op_eq (pv 3) pe_int (nomark _)) (pss_one (ps_ret (pe_tup (pa_cons pe_str (pa_cons (pe_call (ok_law_draw T) (hr.mono (by decide)) (by rfl) T.g_law_draw T.F_law_draw.kp T.b_law_draw .nil pass0 (pa_cons (pv 0) (pa_cons pe_int pa_nil))) pa_nil))))) pss_nil)
      (pss_cons (ps_if (pt_cmpR op_eq (pv 3) pe_int (nomark _)) (pss_one (ps_ret (pe_tup (pa_cons pe_str (pa_cons (pv 6) (pa_cons (pe_call (ok_law_register T) (hr.mono (by decide)) (by rfl) T.g_law_register T.F_law_register.kp T.b_law_register .nil pass0 (pa_cons (pv 0) pa_nil)) (pa_cons (pv 4) (pa_cons (pe_call (ok_law_draw T) (hr.mono (by decide)) (by rfl) T.g_law_draw T.F_law_draw.kp T.b_law_draw .nil pass0 (pa_cons (pv 0) (pa_cons pe_int pa_nil))) pa_nil)))))))) pss_nil)
      (pss_cons (ps_if (pt_cmpR op_eq (pv 3) pe_int (nomark _)) (pss_one (ps_ret (pe_tup (pa_cons pe_str (pa_cons (pe_call (ok_law_draw T) (hr.mono (by decide)) (by rfl) T.g_law_draw T.F_law_draw.kp T.b_law_draw .nil pass0 (pa_cons (pv 0) (pa_cons (pv 1) pa_nil))) pa_nil))))) pss_nil)
      (pss_cons (ps_if (pt_cmpR op_lt (pv 3) pe_int (nomark _)) (pss_one (ps_ret (pe_tup (pa_cons pe_str (pa_cons (pv 4) (pa_cons (pe_call (ok_law_draw T) (hr.mono (by decide)) (by rfl) T.g_law_draw T.F_law_draw.kp T.b_law_draw .nil pass0 (pa_cons (pv 0) (pa_cons (pv 1) pa_nil))) (pa_cons (pe_call (ok_law_draw T) (hr.mono (by decide)) (by rfl) T.g_law_draw T.F_law_draw.kp T.b_law_draw .nil pass0 (pa_cons (pv 0) (pa_cons (pe_op op_add (pv 1) pe_int) pa_nil))) pa_nil))))))) pss_nil)
      (pss_cons (ps_if (PW.pt (pw_and (pt_cmpR op_eq (pv 3) pe_int (nomark _)) (pw_and1 (pt_cmpR op_eq (pe_call (ok_law_draw T) (hr.mono (by decide)) (by rfl) T.g_law_draw T.F_law_draw.kp T.b_law_draw .nil pass0 (pa_cons (pv 0) (pa_cons pe_int pa_nil))) pe_int (nomark _))))) (pss_one (ps_ret (pe_tup (pa_cons pe_str pa_nil)))) pss_nil)
      (pss_one (ps_ret (pe_call (ok_law_plain_instruction T) (hr.mono (by decide)) (by rfl) T.g_law_plain_instruction T.F_law_plain_instruction.kp T.b_law_plain_instruction .nil pass0 (pa_cons (pv 0) (pa_cons (pv 2) pa_nil))))))))))))))))), ?_⟩
    have S : Sg q p H H := ⟨.refl, hS⟩
    clear hS
    have fin : ∀ {Hz : Hp} (c : CI), CI.ok61 many loc c → Sg q p H Hz → c.ds.length ≤ sizeLine ∧ ∀ t, Hz t = none → Q (.ref t) (L2.upd Hz t (.tup (c.ds.map fV))) := fun c ok S => ⟨Nat.le_of_lt (small1000 (by have := c.short; omega)), fun t nt => k _ _ c ok (S.new nt) (Dp.ofFlat sqT_laid c.flat)⟩
    walk_at "dr"
    obtain ⟨pick, rfl⟩ : ∃ x : Int, x = u := ⟨u, rfl⟩
    clear u0 u1
    walk_at "rg"
    obtain ⟨r, rfl, hrr⟩ : ∃ x : Nat, x = g ∧ x < 8 := ⟨g, rfl, hg⟩
    clear hg
    walk_at "ls"
    obtain ⟨ar, mar, ex⟩ := pickI arrsL u0 u1
    walk_at "ix"
    walk_at "ls"
    obtain ⟨fo, mfo, ex⟩ := pickS foldsS u0 u1
    walk_at "ix"
    refine ⟨_, rfl, rfl, _, rfl, ite2 (fun z => ?_) (fun z => ?_)⟩
    · walk_at "rg"
      exact ⟨_, rfl, _, rfl, fin (.load g ar r) ⟨hg, mar, hrr⟩ S⟩
    refine ⟨_, rfl, rfl, _, rfl, ite2 (fun z => ?_) (fun z => ?_)⟩
    · refine ⟨_, rfl, _, rfl, ?_⟩
      walk_at "rg"
      exact fin (.store ar r g) ⟨mar, hrr, hg⟩ S
    refine ⟨_, rfl, rfl, _, rfl, ite2 (fun z => ?_) (fun z => ?_)⟩
    · refine ⟨_, rfl, _, rfl, _, rfl, ?_⟩
      walk_at "rg"
      exact fin (.atomic fo ar r g) ⟨mfo, mar, hrr, hg⟩ S
    refine ⟨_, rfl, rfl, _, rfl, ite2 (fun z => ?_) (fun z => ?_)⟩
    · walk_at "dr"
      exact fin (.barrier u) ⟨u0, u1⟩ S
    refine ⟨_, rfl, rfl, _, rfl, ite2 (fun z => ?_) (fun z => ?_)⟩
    · refine ⟨_, rfl, ?_⟩
      walk_at "rg"
      refine ⟨_, rfl, ?_⟩
      walk_at "dr"
      exact fin (.collect fo g r u) ⟨mfo, hg, hrr, u0, u1⟩ S
    refine ⟨_, rfl, rfl, _, rfl, ite2 (fun z => ?_) (fun z => ?_)⟩
    · refine ⟨_, rfl, ?_⟩
      walk_at "dr"
      exact fin (.jump u) ⟨u0, u1⟩ S
    refine ⟨_, rfl, _, _, rfl, rfl, _, rfl, ite2 (fun z => ?_) (fun z => ?_)⟩
    · refine ⟨_, rfl, _, rfl, ?_⟩
      walk_at "dr"
      obtain ⟨x, rfl, x0, x1⟩ : ∃ x : Int, x = u ∧ 0 ≤ x ∧ x < many := ⟨u, rfl, u0, u1⟩
      clear u0 u1
      refine ⟨_, rfl, _, rfl, _, _, rfl, rfl, p, q, _, rfl, S.str, by show (0 : Int) < (many : Int) + 1; omega, by show (many : Int) + 1 < _; omega, fun y Hu y0 y1 b s => ?_⟩
      replace S := S.draw b s
      exact fin (.branch r x y) ⟨hrr, x0, x1, y0, Int.lt_add_one_iff.mp y1⟩ S
    refine ⟨_, rfl, rfl, _, rfl, ite2 (fun z => ?_) (fun z => iteN rfl ⟨_, rfl, _, rfl, p, q, loc, many, rfl, S.str, l6, fun v H' c ok s d => k v H' c ok ⟨S.but.trans s.but, s.str⟩ d⟩)⟩
    walk_at "dr"
    refine ⟨rfl, _, rfl, ite2 (fun z => ?_) (fun z => ⟨_, rfl, _, rfl, p, q, loc, many, rfl, S.str, l6, fun v H' c ok s d => k v H' c ok ⟨S.but.trans s.but, s.str⟩ d⟩)⟩
    exact fin .exit trivial S
set_option hygiene false
local macro_rules | `(tactic| walk_at "dr") => `(tactic| (refine ⟨_, rfl, p, q, _, rfl, S.str, (by first | decide | omega), (by first | decide | omega), fun u Hu u0 u1 b s => ?_⟩; replace S := S.draw b s; clear b s))
local macro_rules | `(tactic| walk_at "ls") => `(tactic| (refine ⟨by walk_at "size", fun D nD => ?_⟩; refine ⟨_, rfl, p, q, _, rfl, (S.new nD).str, (by first | decide | omega), (by first | decide | omega), fun u Hu u0 u1 b s => ?_⟩))
local macro_rules | `(tactic| walk_at "ix") => `(tactic| (refine ⟨D, _, u, _, rfl, rfl, Sg.kept S.str nD b, ex, ?_⟩; replace S := (S.new nD).draw b s; clear nD b s ex u0 u1))
local macro_rules | `(tactic| walk_at "pt") => `(tactic| (refine ⟨by walk_at "size", fun t nt => ?_⟩; generalize hx : L2.upd _ t _ = Hn; have tk := Tk.newE nt hx; replace L := Lw.freshE L nt hx; replace da := DpAll.tk tk nd da; (try replace g1 := Dp.tk tk rfl g1); (try replace g2 := Dp.tk tk rfl g2); (try replace g3 := Dp.tk tk rfl g3); (try replace g4 := Dp.tk tk rfl g4); (try replace g5 := Dp.tk tk rfl g5); (try replace gP := Dp.tk tk rfl gP); clear tk))
set_option hygiene true
theorem Tk.newE {H H' : Hp} {D : Addr} {o : HO} (n : H D = none) (e : L2.upd H D o = H') : Tk H H' := e ▸ Same.tk (same_new5 n)
theorem dpE {K : PySem.W.Frag} {H H' : Hp} {t : Addr} {ds : List PyData} (e : L2.upd H t (.tup (ds.map fV)) = H') (f : ds.all isF = true) : Dp K H' (.ref t) (.tuple ds) := e ▸ Dp.ofFlat sqT_laid f
theorem dpA {K : PySem.W.Frag} {H H' : Hp} {t : Addr} {vs : List V} {ds : List PyData} (e : L2.upd H t (.tup vs) = H') (r : DpAll K H' vs ds) : Dp K H' (.ref t) (.tuple ds) := .tup (e ▸ sqT_laid) r
/-- a list of a call's own, being filled -/
structure Lw (H0 : Hp) (q p D : Addr) (vs : List V) (H : Hp) : Prop where
  sg : Sg q p H0 H
  row : H D = some (.lst vs)
  new : H0 D = none
  np : D ≠ p
  nq : D ≠ q
theorem Lw.begin {H0 H : Hp} {q p D : Addr} {vs : List V} (S : Sg q p H0 H) (n : H D = none) : Lw H0 q p D vs (L2.upd H D (.lst vs)) :=
  ⟨S.new n, upd_same, (by
    cases e : H0 D with
    | none => rfl
    | some o =>
      have := S.but _ _ (S.str.nep n) e
      rw [n] at this
      cases this), S.str.nep n, S.str.neq n⟩
theorem Lw.more {H0 H H' : Hp} {q p D : Addr} {vs : List V} (L : Lw H0 q p D vs H) (S : Sg q p H H') : Lw H0 q p D vs H' := ⟨⟨L.sg.but.trans S.but, S.str⟩, S.but _ _ L.np L.row, L.new, L.np, L.nq⟩
theorem Lw.draw {H0 H H' : Hp} {q p D : Addr} {vs : List V} (L : Lw H0 q p D vs H) (b : But p H H') (s : Strm q H' p) : Lw H0 q p D vs H' := L.more ⟨b, s⟩
theorem Lw.snoc {H0 H : Hp} {q p D : Addr} {vs : List V} (L : Lw H0 q p D vs H) (v : V) : Lw H0 q p D (vs ++ [v]) (L2.upd H D (.lst (vs ++ [v]))) :=
  ⟨⟨fun b o n e => by rw [upd_ne (fun z => by rw [z, L.new] at e; cases e)]; exact L.sg.but _ _ n e, L.sg.str.upd L.np L.nq⟩, upd_same, L.new, L.np, L.nq⟩
theorem Sg.tk {H H' : Hp} {q p : Addr} (S0 : Strm q H p) (S : Sg q p H H') : Tk H H' := Tk.but S0 S.but
theorem Tk.new {H : Hp} {D : Addr} {o : HO} (n : H D = none) : Tk H (L2.upd H D o) := Same.tk (same_new5 n)
theorem Lw.fresh {H0 H : Hp} {q p D t : Addr} {vs : List V} {o : HO} (L : Lw H0 q p D vs H) (n : H t = none) : Lw H0 q p D vs (L2.upd H t o) := L.more ⟨But.refl.same (same_new5 n), L.sg.str.same (same_new5 n)⟩
theorem Lw.freshE {H0 H H' : Hp} {q p D t : Addr} {vs : List V} {o : HO} (L : Lw H0 q p D vs H) (n : H t = none) (e : L2.upd H t o = H') : Lw H0 q p D vs H' := e ▸ L.fresh n
def PS61 : List PyData := [.tuple [.str "a", .str "buffer"], .tuple [.str "n", .str "int"], .tuple [.str "b", .str "buffer"], .tuple [.str "m", .str "int"], .tuple [.str "o", .str "int"]]
def SS61 : List PyData := [.tuple [.str "s", .int 3], .tuple [.str "t", .int 1], .tuple [.str "u", .int 16]]
structure Code61 (loc : Nat) (cs : List CI) : Prop where
  loc6 : loc ≤ 6
  len : 1 ≤ cs.length
  len14 : cs.length ≤ 14
  ok : ∀ c ∈ cs, CI.ok61 cs.length loc c
  last : ∃ c, cs[cs.length - 1]? = some c ∧ (c = .exit ∨ ∃ k, c = .jump k)
def sp_law_code61 (K : PySem.W.Frag) : Sp := fun vs H Q _ => ∃ p q : Addr, vs = [.ref p] ∧ Strm q H p ∧ ∀ (v : V) H' loc cs, Code61 loc cs → Sg q p H H' → Dp K H' v (codeD (.tuple PS61) (.tuple SS61) loc cs) → Q v H'
theorem DpAll.snoc {K : PySem.W.Frag} {H : Hp} : ∀ {vs : List V} {ds : List PyData} {v : V} {d : PyData}, DpAll K H vs ds → Dp K H v d → DpAll K H (vs ++ [v]) (ds ++ [d])
  | _, _, _, _, .nil, h => .cons h .nil
  | _, _, _, _, .cons a r, h => .cons a (DpAll.snoc r h)
theorem noLs_ci (cs : List CI) : noLs (cs.map CI.d) = true := noLs_all _ fun d m => by
  obtain ⟨c, _, rfl⟩ := List.mem_map.mp m
  exact noLs_flat _ c.flat
set_option maxHeartbeats 4000000 in
theorem ok_law_code (T : Tx w K mg) : FnOk P w K mg base CX0 5 T.a_law_code T.d_law_code ["stream"] (sp_law_code61 K) := by
  refine T.F_law_code.ok sc_law_code (fun vs H Q E h => ?_) (fun cdv A outer s H vs Q E hr h => ?_)
  · obtain ⟨p, q, rfl, _⟩ := h
    rfl
  · obtain ⟨p, q, rfl, hS, k⟩ := h
    refine ⟨_, (pss_cons (ps_set (i := 1) sc_law_code.nd rfl (.inl rfl) (pe_op op_add pe_int (pe_call (ok_law_draw T) (hr.mono (by decide)) (by rfl) T.g_law_draw T.F_law_draw.kp T.b_law_draw .nil pass0 (pa_cons (pv 0) (pa_cons pe_int pa_nil)))))
      (pss_cons (ps_set (i := 2) sc_law_code.nd rfl (.inl rfl) (pe_ix ix_list (pe_lst (pa_cons pe_int (pa_cons pe_int (pa_cons pe_int (pa_cons pe_int pa_nil))))) (pe_call (ok_law_draw T) (hr.mono (by decide)) (by rfl) T.g_law_draw T.F_law_draw.kp T.b_law_draw .nil pass0 (pa_cons (pv 0) (pa_cons pe_int pa_nil))) (fun _ _ => rfl)))
      (pss_cons (ps_set (i := 3) sc_law_code.nd rfl (.inl rfl) (pe_lst (pa_cons (pe_tup (pa_cons pe_str (pa_cons pe_int (pa_cons pe_str pa_nil)))) pa_nil)))
      (pss_cons (ps_for PassesOwn.never rfl (pi_range1 (by rfl) T.z_range (pa_cons (pe_op op_sub (pv 1) pe_int) pa_nil)) (pg_name (i := 4) sc_law_code.nd rfl (.inl rfl)) (pss_one (ps_expr (pe_bm PySem.F.plainAttrs_list PySem.F.slot_list_append PySem.F.type_list_append mt_append (pv 3) (pa_cons (pe_call (ok_law_instruction T) (hr.mono (by decide)) (by rfl) T.g_law_instruction T.F_law_instruction.kp T.b_law_instruction .nil pass0 (pa_cons (pv 0) (pa_cons (pv 1) (pa_cons (pv 2) pa_nil)))) pa_nil)))))
      (pss_cons (ps_expr (pe_bm PySem.F.plainAttrs_list PySem.F.slot_list_append PySem.F.type_list_append mt_append (pv 3) (pa_cons (pe_ix ix_list (pe_lst (pa_cons (pe_tup (pa_cons pe_str pa_nil)) (pa_cons (pe_tup (pa_cons pe_str pa_nil)) (pa_cons (pe_tup (pa_cons pe_str (pa_cons (pe_call (ok_law_draw T) (hr.mono (by decide)) (by rfl) T.g_law_draw T.F_law_draw.kp T.b_law_draw .nil pass0 (pa_cons (pv 0) (pa_cons (pv 1) pa_nil))) pa_nil))) pa_nil)))) (pe_call (ok_law_draw T) (hr.mono (by decide)) (by rfl) T.g_law_draw T.F_law_draw.kp T.b_law_draw .nil pass0 (pa_cons (pv 0) (pa_cons pe_int pa_nil))) (fun _ _ => rfl)) pa_nil)))
      (pss_cons (ps_set (i := 5) sc_law_code.nd rfl (.inl rfl) (pe_tup (pa_cons (pe_tup (pa_cons pe_str (pa_cons pe_str pa_nil))) (pa_cons (pe_tup (pa_cons pe_str (pa_cons pe_str pa_nil))) (pa_cons (pe_tup (pa_cons pe_str (pa_cons pe_str pa_nil))) (pa_cons (pe_tup (pa_cons pe_str (pa_cons pe_str pa_nil))) (pa_cons (pe_tup (pa_cons pe_str (pa_cons pe_str pa_nil))) pa_nil)))))))
      (pss_one (ps_ret (pe_tup (pa_cons (pv 5) (pa_cons (pe_tup (pa_cons (pe_tup (pa_cons pe_str (pa_cons pe_int pa_nil))) (pa_cons (pe_tup (pa_cons pe_str (pa_cons pe_int pa_nil))) (pa_cons (pe_tup (pa_cons pe_str (pa_cons pe_int pa_nil))) pa_nil)))) (pa_cons (pv 2) (pa_cons (pe_callTy call_tuple_of (by rfl) T.z_tuple (by decide +kernel) (pa_cons (pv 3) pa_nil)) pa_nil))))))))))))), ?_⟩
    have S : Sg q p H H := ⟨.refl, hS⟩
    clear hS
    walk_at "dr"
    obtain ⟨n, rfl, n12⟩ : ∃ n : Nat, (n : Int) = u ∧ n < 12 := ⟨u.toNat, by omega, by omega⟩
    clear u0 u1
    refine ⟨_, _, rfl, rfl, ?_⟩
    walk_at "ls"
    obtain ⟨loc, ml, ex⟩ := pickM (fun k : Nat => V.int (k : Int)) [0, 1, 2, 6] u0 u1
    walk_at "ix"
    have l6 : loc ≤ 6 := by
      simp only [List.mem_cons, List.not_mem_nil, or_false] at ml
      omega
    refine ⟨by walk_at "size", fun t nt => ⟨by walk_at "size", fun R nR => ?_⟩⟩
    have L := Lw.begin (vs := [V.ref t]) (S.new (o := .tup [.str "special", .int 1, .str "tid"]) nt) nR
    have d0 := Dp.tk (K := K) (Tk.new (o := .lst [V.ref t]) nR) (d := (CI.special 1 .tid).d) rfl (Dp.ofFlat (ds := (CI.special 1 .tid).ds) (a := t) sqT_laid rfl)
    generalize L2.upd _ R _ = Hr at L d0 ⊢
    clear nt nR S
    refine ⟨_, rfl, _, _, rfl, rfl, _, rfl, by omega, by omega, ?_⟩
    refine for_range (n := (3 + (n : Int) - 2).toNat) (fun i σ H' => ∃ (y4 : Option V) (vs : List V) (cs : List CI), σ = [some (.ref p), some (.int (3 + (n : Int))), some (.int (loc : Int)), some (.ref R), y4, none] ∧ cs.length = i + 1 ∧ i ≤ n + 1 ∧ (∀ c ∈ cs, CI.ok61 (3 + n) loc c) ∧ Lw H q p R vs H' ∧ DpAll K H' vs (cs.map CI.d))
      ⟨_, [V.ref t], [.special 1 .tid], rfl, rfl, by omega, (fun c m => by rw [List.mem_singleton.mp m]; show 1 < 8; decide), L, .cons d0 .nil⟩ ?_ ?_
    · rintro i σ H5 hi ⟨y4, vs, cs, rfl, cl, in1, hcs, L, da⟩
      refine ⟨_, rfl, .inl ⟨rfl, _, SqL.of L.row⟩, ?_⟩
      refine ⟨_, rfl, _, rfl, _, rfl, p, q, loc, 3 + n, rfl, L.sg.str, l6, by omega, by omega, fun v H6 c ok s dc => ?_⟩
      have tk := s.tk L.sg.str
      have L2 := L.more s
      have vl : vs.length ≤ 20 := by rw [da.len, List.length_map]; omega
      refine ⟨_, _, _, rfl, rfl, L2.row, by rw [sizeLine_eq]; omega, _, vs ++ [v], cs ++ [c], rfl, by rw [List.length_append, cl]; rfl, by omega, fun c' m => ?_, L2.snoc v, ?_⟩
      · rcases List.mem_append.mp m with m | m
        · exact hcs c' m
        · rw [List.mem_singleton.mp m]; exact ok
      · rw [List.map_append]
        exact DpAll.snoc (DpAll.tk (tk.trans (Tk.upd L2.row)) (noLs_ci cs) da) (Dp.tk (Tk.upd L2.row) (noLs_flat _ c.flat) dc)
    rintro σ H5 ⟨y4, vs, cs, rfl, cl, in1, hcs, L, da⟩
    have vl : vs.length ≤ 20 := by rw [da.len, List.length_map]; omega
    refine ⟨_, rfl, .inl ⟨rfl, _, SqL.of L.row⟩, ?_⟩
    have e1 : ∀ {Hz : Hp} {t : Addr}, Hz t = none → Dp K (L2.upd Hz t (.tup [.str "exit"])) (.ref t) CI.exit.d := fun n => Dp.ofFlat (ds := CI.exit.ds) sqT_laid rfl
    have nd := noLs_ci cs
    refine ⟨by walk_at "size", fun t1 n1 => ?_⟩
    have f1 := e1 n1
    replace L := L.fresh (o := .tup [.str "exit"]) n1
    replace da := DpAll.tk (Tk.new (o := .tup [.str "exit"]) n1) nd da
    generalize L2.upd _ t1 _ = Ha at f1 L da ⊢
    refine ⟨by walk_at "size", fun t2 n2 => ?_⟩
    have f2 := e1 n2
    replace L := L.fresh (o := .tup [.str "exit"]) n2
    replace da := DpAll.tk (Tk.new (o := .tup [.str "exit"]) n2) nd da
    replace f1 := Dp.tk (Tk.new (o := .tup [.str "exit"]) n2) (d := CI.exit.d) rfl f1
    generalize L2.upd _ t2 _ = Hb at f1 f2 L da ⊢
    refine ⟨_, rfl, _, rfl, p, q, _, rfl, L.sg.str, by show (0 : Int) < 3 + (n : Int); omega, by show (3 : Int) + n < _; omega, fun u Hc u0 u1 b s => ?_⟩
    have tk := Tk.but L.sg.str b
    replace L := L.draw b s
    replace da := DpAll.tk tk nd da
    replace f1 := Dp.tk tk (d := CI.exit.d) rfl f1
    replace f2 := Dp.tk tk (d := CI.exit.d) rfl f2
    clear tk b s
    refine ⟨by walk_at "size", fun t3 n3 => ?_⟩
    have f3 : Dp K (L2.upd Hc t3 (.tup [.str "jump", .int u])) (.ref t3) (CI.jump u).d := Dp.ofFlat (ds := (CI.jump u).ds) sqT_laid rfl
    have tk := Tk.new (o := .tup [.str "jump", .int u]) n3
    replace L := L.fresh (o := .tup [.str "jump", .int u]) n3
    replace da := DpAll.tk tk nd da
    replace f1 := Dp.tk tk (d := CI.exit.d) rfl f1
    replace f2 := Dp.tk tk (d := CI.exit.d) rfl f2
    generalize L2.upd _ t3 _ = Hd at f1 f2 f3 L da ⊢
    clear tk n1 n2 n3
    refine ⟨by walk_at "size", fun D nD => ?_⟩
    have tk := Tk.new (o := .lst [.ref t1, .ref t2, .ref t3]) nD
    have nS : D ≠ p := L.sg.str.nep nD
    replace L := L.fresh (o := .lst [.ref t1, .ref t2, .ref t3]) nD
    replace da := DpAll.tk tk nd da
    replace f1 := Dp.tk tk (d := CI.exit.d) rfl f1
    replace f2 := Dp.tk tk (d := CI.exit.d) rfl f2
    replace f3 := Dp.tk tk (d := (CI.jump u).d) rfl f3
    refine ⟨_, rfl, p, q, _, rfl, L.sg.str, by decide, by decide, fun w0 He w1 w2 b s => ?_⟩
    have hD : SqL K He D [.ref t1, .ref t2, .ref t3] := SqL.of (b _ _ nS upd_same)
    replace tk := Tk.but L.sg.str b
    replace L := L.draw b s
    replace da := DpAll.tk tk nd da
    replace f1 := Dp.tk tk (d := CI.exit.d) rfl f1
    replace f2 := Dp.tk tk (d := CI.exit.d) rfl f2
    replace f3 := Dp.tk tk (d := (CI.jump u).d) rfl f3
    clear tk b s nS nD
    obtain ⟨v, c, ev, dc, lc, okc⟩ : ∃ (v : V) (c : CI), atI [V.ref t1, .ref t2, .ref t3] w0 = some v ∧ Dp K He v c.d ∧ (c = .exit ∨ ∃ k, c = .jump k) ∧ CI.ok61 (3 + n) loc c := by
      have : w0 = 0 ∨ w0 = 1 ∨ w0 = 2 := by omega
      rcases this with rfl | rfl | rfl
      · exact ⟨_, .exit, rfl, f1, .inl rfl, trivial⟩
      · exact ⟨_, .exit, rfl, f2, .inl rfl, trivial⟩
      · exact ⟨_, .jump u, rfl, f3, .inr ⟨u, rfl⟩, u0, u1⟩
    refine ⟨D, _, w0, v, rfl, rfl, hD, ev, ?_⟩
    refine ⟨_, _, _, rfl, rfl, L.row, by rw [sizeLine_eq]; omega, ?_⟩
    have L2' := L.snoc v
    have da2 : DpAll K (L2.upd He R (.lst (vs ++ [v]))) (vs ++ [v]) ((cs ++ [c]).map CI.d) := by
      rw [List.map_append]
      exact DpAll.snoc (DpAll.tk (Tk.upd L.row) nd da) (Dp.tk (Tk.upd L.row) (noLs_flat _ c.flat) dc)
    have cok : Code61 loc (cs ++ [c]) := by
      have e : (cs ++ [c]).length = 3 + n := by rw [List.length_append, List.length_singleton, cl]; omega
      refine ⟨l6, by omega, by omega, fun c' m => ?_, c, ?_, lc⟩
      · rw [e]
        rcases List.mem_append.mp m with m | m
        · exact hcs c' m
        · rw [List.mem_singleton.mp m]; exact okc
      · rw [List.length_append, List.getElem?_append_right (by show _ ≤ cs.length + 1 - 1; omega)]
        show [c][cs.length + 1 - 1 - cs.length]? = _
        rw [show cs.length + 1 - 1 - cs.length = 0 by omega]; rfl
    generalize L2.upd He R (.lst (vs ++ [v])) = Hf at L2' da2 ⊢
    have nd2 := noLs_ci (cs ++ [c])
    generalize cs ++ [c] = cs2 at da2 cok nd2
    generalize vs ++ [v] = vs2 at L2' da2
    clear L da f1 f2 f3 hD ev dc okc lc hcs cl in1 vl nd
    have L := L2'
    have da := da2
    have nd := nd2
    clear L2' da2 nd2
    walk_at "pt"
    have g1 := dpE (K := K) (ds := [.str "a", .str "buffer"]) hx rfl
    clear hx nt
    walk_at "pt"
    have g2 := dpE (K := K) (ds := [.str "n", .str "int"]) hx rfl
    clear hx nt
    walk_at "pt"
    have g3 := dpE (K := K) (ds := [.str "b", .str "buffer"]) hx rfl
    clear hx nt
    walk_at "pt"
    have g4 := dpE (K := K) (ds := [.str "m", .str "int"]) hx rfl
    clear hx nt
    walk_at "pt"
    have g5 := dpE (K := K) (ds := [.str "o", .str "int"]) hx rfl
    clear hx nt
    walk_at "pt"
    have gP : Dp K Hn (.ref t) (.tuple PS61) := dpA hx (.cons g1 (.cons g2 (.cons g3 (.cons g4 (.cons g5 .nil)))))
    clear hx nt g1 g2 g3 g4 g5
    refine ⟨_, rfl, ?_⟩
    walk_at "pt"
    have g1 := dpE (K := K) (ds := [.str "s", .int 3]) hx rfl
    clear hx nt
    walk_at "pt"
    have g2 := dpE (K := K) (ds := [.str "t", .int 1]) hx rfl
    clear hx nt
    walk_at "pt"
    have g3 := dpE (K := K) (ds := [.str "u", .int 16]) hx rfl
    clear hx nt
    walk_at "pt"
    have g4 : Dp K Hn (.ref t) (.tuple SS61) := dpA hx (.cons g1 (.cons g2 (.cons g3 .nil)))
    clear hx nt g1 g2 g3
    refine ⟨_, rfl, _, rfl, R, _, rfl, .inl ⟨SqL.of L.row, fun t nt => ?_⟩⟩
    generalize hx : L2.upd _ t _ = Hm
    have tk := Tk.newE nt hx
    replace L := Lw.freshE L nt hx
    replace da := DpAll.tk tk nd da
    replace g4 := Dp.tk tk rfl g4
    replace gP := Dp.tk tk rfl gP
    have gC : Dp K Hm (.ref t) (.tuple (cs2.map CI.d)) := dpA hx da
    clear hx nt tk da
    refine ⟨by walk_at "size", fun t nt => ?_⟩
    exact k _ _ loc cs2 cok (L.sg.new nt) (.tup sqT_laid (.cons (gP.same (same_new5 nt)) (.cons (g4.same (same_new5 nt)) (.cons (.int _) (.cons (gC.same (same_new5 nt)) .nil)))))
set_option hygiene false
local macro_rules | `(tactic| walk_at "dr") => `(tactic| (refine ⟨_, rfl, p, q, _, rfl, S.str, (by first | decide | omega), (by first | decide | omega), fun u Hu u0 u1 b s => ?_⟩; replace S := S.draw b s; clear b s))
local macro_rules | `(tactic| walk_at "ls") => `(tactic| (refine ⟨by walk_at "size", fun D nD => ?_⟩; refine ⟨_, rfl, p, q, _, rfl, (S.new nD).str, (by first | decide | omega), (by first | decide | omega), fun u Hu u0 u1 b s => ?_⟩))
local macro_rules | `(tactic| walk_at "ix") => `(tactic| (refine ⟨D, _, u, _, rfl, rfl, Sg.kept S.str nD b, ex, ?_⟩; replace S := (S.new nD).draw b s; clear nD b s ex u0 u1))
set_option hygiene true
theorem DpAll.take {K : PySem.W.Frag} {H : Hp} : ∀ {vs : List V} {ds : List PyData} (n : Nat), DpAll K H vs ds → DpAll K H (vs.take n) (ds.take n)
  | _, _, 0, _ => .nil
  | _, _, _ + 1, .nil => .nil
  | _, _, n + 1, .cons h r => .cons h (DpAll.take n r)
/-- the law's own launch -/
def sp_law_started (K : PySem.W.Frag) : Sp := fun vs H Q _ => ∃ p q : Addr, vs = [.ref p] ∧ Strm q H p ∧ ∀ (v : V) H' (l : LN), l.ok 5 → noL l.d = true → Sg q p H H' → Dp K H' v l.d → Q v H'
theorem noL_mem {ds : List PyData} {n : Nat} (h : noLs ds = true) : noLs (ds.take n) = true := by
  induction ds generalizing n with
  | nil => rw [List.take_nil]; rfl
  | cons d r ih =>
    cases n with
    | zero => rfl
    | succ n =>
      have h' := Bool.and_eq_true_iff.mp (show (noL d && noLs r) = true from h)
      show (noL d && noLs (r.take n)) = true
      rw [h'.1, ih h'.2]; rfl
set_option maxHeartbeats 4000000 in
theorem ok_law_started (T : Tx w K mg) : FnOk P w K mg base CX0 3 T.a_law_started T.d_law_started ["stream"] (sp_law_started K) := by
  refine T.F_law_started.ok sc_law_started (fun vs H Q E h => ?_) (fun cdv A outer s H vs Q E hr h => ?_)
  · obtain ⟨p, q, rfl, _⟩ := h
    rfl
  · obtain ⟨p, q, rfl, hS, k⟩ := h
    refine ⟨_, (pss_cons (ps_set (i := 1) sc_law_started.nd rfl (.inl rfl) (pe_callTy call_tuple_of (by rfl) T.z_tuple (by decide +kernel) (pa_cons (pe_lc (own := [("k", 6)]) (g := gName 6) (tt := tYes) rfl sc_law_started.nd (pi_range1 (by rfl) T.z_range (pa_cons (pe_call (ok_law_draw T) (hr.mono (by decide)) (by rfl) T.g_law_draw T.F_law_draw.kp T.b_law_draw .nil pass0 (pa_cons (pv 0) (pa_cons pe_int pa_nil))) pa_nil)) (blkOk_by (N := ["stream", "row", "buffers", "many", "arguments", "block", "k"]) (sc := defScope s_law_started) (by decide +kernel)) (fun _ _ _ _ _ => (pg_name (i := 6) sc_law_started.nd rfl (.inl rfl))) (fun _ _ _ _ _ => pts_nil) (fun _ _ _ _ _ => (pe_op op_sub (pe_call (ok_law_draw T) (hr.mono (by decide)) (by rfl) T.g_law_draw T.F_law_draw.kp T.b_law_draw .nil pass0 (pa_cons (pv 0) (pa_cons pe_int pa_nil))) pe_int))) pa_nil)))
      (pss_cons (ps_set (i := 2) sc_law_started.nd rfl (.inl rfl) (pe_slice sl_tupA (pe_tup (pa_cons (pv 1) (pa_cons (pe_tup (pa_cons pe_int (pa_cons pe_int (pa_cons pe_int pa_nil)))) (pa_cons (pe_tup pa_nil) (pa_cons (pe_op op_repT (pe_tup (pa_cons pe_int pa_nil)) pe_int) pa_nil))))) po_none (po_some (pe_op op_add pe_int (pe_call (ok_law_draw T) (hr.mono (by decide)) (by rfl) T.g_law_draw T.F_law_draw.kp T.b_law_draw .nil pass0 (pa_cons (pv 0) (pa_cons pe_int pa_nil)))))))
      (pss_cons (ps_set (i := 3) sc_law_started.nd rfl (.inl rfl) (pe_callB call_len_seq (by rfl) T.z_len (by decide +kernel) (pa_cons (pv 2) pa_nil)))
      (pss_cons (ps_set (i := 4) sc_law_started.nd rfl (.inl rfl) (pe_tup (pa_cons (pe_call (ok_law_draw T) (hr.mono (by decide)) (by rfl) T.g_law_draw T.F_law_draw.kp T.b_law_draw .nil pass0 (pa_cons (pv 0) (pa_cons (pv 3) pa_nil))) (pa_cons (pe_op op_sub (pe_call (ok_law_draw T) (hr.mono (by decide)) (by rfl) T.g_law_draw T.F_law_draw.kp T.b_law_draw .nil pass0 (pa_cons (pv 0) (pa_cons pe_int pa_nil))) pe_int) (pa_cons (pe_call (ok_law_draw T) (hr.mono (by decide)) (by rfl) T.g_law_draw T.F_law_draw.kp T.b_law_draw .nil pass0 (pa_cons (pv 0) (pa_cons (pv 3) pa_nil))) (pa_cons pe_int (pa_cons (pe_un un_neg pe_int) pa_nil)))))))
      (pss_cons (ps_set (i := 5) sc_law_started.nd rfl (.inl rfl) (pe_op op_add pe_int (pe_call (ok_law_draw T) (hr.mono (by decide)) (by rfl) T.g_law_draw T.F_law_draw.kp T.b_law_draw .nil pass0 (pa_cons (pv 0) (pa_cons (pe_ix ix_list (pe_lst (pa_cons pe_int (pa_cons pe_int pa_nil))) (pe_call (ok_law_draw T) (hr.mono (by decide)) (by rfl) T.g_law_draw T.F_law_draw.kp T.b_law_draw .nil pass0 (pa_cons (pv 0) (pa_cons pe_int pa_nil))) (fun _ _ => rfl)) pa_nil)))))
      (pss_one (ps_ret (pe_tup (pa_cons (pe_op op_add pe_int (pe_call (ok_law_draw T) (hr.mono (by decide)) (by rfl) T.g_law_draw T.F_law_draw.kp T.b_law_draw .nil pass0 (pa_cons (pv 0) (pa_cons (pe_ix ix_list (pe_lst (pa_cons pe_int (pa_cons pe_int pa_nil))) (pe_call (ok_law_draw T) (hr.mono (by decide)) (by rfl) T.g_law_draw T.F_law_draw.kp T.b_law_draw .nil pass0 (pa_cons (pv 0) (pa_cons pe_int pa_nil))) (fun _ _ => rfl)) pa_nil)))) (pa_cons (pv 5) (pa_cons (pv 4) (pa_cons (pv 2) pa_nil)))))))))))), ?_⟩
    have S : Sg q p H H := ⟨.refl, hS⟩
    clear hS
    walk_at "dr"
    obtain ⟨n, rfl, n7⟩ : ∃ n : Nat, (n : Int) = u ∧ n < 7 := ⟨u.toNat, by omega, by omega⟩
    clear u0 u1
    refine ⟨_, rfl, by omega, by omega, fun D nD => ?_⟩
    refine lc_range (n := n) (fun j H' => ∃ us : List Int, us.length = j ∧ Lw H q p D (us.map V.int) H') ⟨[], rfl, Lw.begin S nD⟩ ?_ ?_
    · rintro j H6 hj ⟨us, ul, L⟩
      refine ⟨rfl, _, rfl, p, q, _, rfl, L.sg.str, by decide, by decide, fun u Hc u0 u1 b s => ?_⟩
      replace L := L.draw b s
      refine ⟨_, _, rfl, rfl, us.map V.int, L.row, by rw [List.length_map, sizeLine_eq]; omega, us ++ [u - 3], by rw [List.length_append, ul]; rfl, ?_⟩
      have L2 := L.snoc (.int (u - 3))
      rw [List.map_append]
      exact L2
    rintro H6 ⟨us, ul, L⟩
    refine ⟨D, _, rfl, .inl ⟨SqL.of L.row, fun tr nr => ?_⟩⟩
    have S := L.sg.new (o := .tup (us.map V.int)) nr
    have g1 : Dp K (L2.upd H6 tr (.tup (us.map V.int))) (.ref tr) (.tuple (us.map PyData.int)) := Dp.ofInts sqT_laid
    generalize L2.upd H6 tr (.tup (us.map V.int)) = Ha at S g1 ⊢
    clear L nr
    refine ⟨_, rfl, by walk_at "size", fun t2 n2 => ?_⟩
    replace g1 := g1.same (same_new5 (o := .tup [.int 1, .int 2, .int 3]) n2)
    replace S := S.new (o := .tup [.int 1, .int 2, .int 3]) n2
    have g2 : Dp K (L2.upd Ha t2 (.tup [.int 1, .int 2, .int 3])) (.ref t2) (.tuple [.int 1, .int 2, .int 3]) := Dp.ofFlat (ds := [.int 1, .int 2, .int 3]) sqT_laid rfl
    generalize L2.upd Ha t2 (.tup [.int 1, .int 2, .int 3]) = Hb at S g1 g2 ⊢
    refine ⟨by walk_at "size", fun t3 n3 => ?_⟩
    replace g1 := g1.same (same_new5 (o := .tup []) n3)
    replace g2 := g2.same (same_new5 (o := .tup []) n3)
    replace S := S.new (o := .tup []) n3
    have g3 : Dp K (L2.upd Hb t3 (.tup [])) (.ref t3) (.tuple []) := Dp.ofFlat (ds := []) sqT_laid rfl
    generalize L2.upd Hb t3 (.tup []) = Hc at S g1 g2 g3 ⊢
    refine ⟨by walk_at "size", fun t4 n4 => ?_⟩
    replace g1 := g1.same (same_new5 (o := .tup [.int 4]) n4)
    replace g2 := g2.same (same_new5 (o := .tup [.int 4]) n4)
    replace g3 := g3.same (same_new5 (o := .tup [.int 4]) n4)
    replace S := S.new (o := .tup [.int 4]) n4
    have g4 : SqT K (L2.upd Hc t4 (.tup [.int 4])) t4 [.int 4] := sqT_laid
    generalize L2.upd Hc t4 (.tup [.int 4]) = Hd at S g1 g2 g3 g4 ⊢
    refine ⟨t4, 5, _, rfl, rfl, g4, (fun e => by cases e), by decide, by decide, by decide, fun t5 n5 => ?_⟩
    clear g4 n2 n3 n4
    generalize hx : L2.upd _ t5 _ = He
    have tk := Same.tk (same_new5 n5 (o := .tup (List.replicate (5 : Int).toNat [V.int 4]).flatten))
    rw [hx] at tk
    have g5 : Dp K He (.ref t5) (.tuple [.int 4, .int 4, .int 4, .int 4, .int 4]) := dpE (ds := [.int 4, .int 4, .int 4, .int 4, .int 4]) hx rfl
    replace S := S.new (o := .tup (List.replicate (5 : Int).toNat [V.int 4]).flatten) n5
    rw [hx] at S
    clear hx n5
    replace g1 := Dp.tk tk (d := .tuple (us.map PyData.int)) (noLs_ints us) g1
    replace g2 := Dp.tk tk rfl g2
    replace g3 := Dp.tk tk rfl g3
    clear tk
    refine ⟨by walk_at "size", fun tb nb => ?_⟩
    generalize hx : L2.upd _ tb _ = Hf
    have tk := Same.tk (same_new5 nb (o := .tup [.ref tr, .ref t2, .ref t3, .ref t5]))
    rw [hx] at tk
    replace S := S.new (o := .tup [.ref tr, .ref t2, .ref t3, .ref t5]) nb
    rw [hx] at S
    have gb : SqT K Hf tb [.ref tr, .ref t2, .ref t3, .ref t5] := hx ▸ sqT_laid
    have gd : DpAll K Hf [.ref tr, .ref t2, .ref t3, .ref t5] [.tuple (us.map PyData.int), .tuple [.int 1, .int 2, .int 3], .tuple [], .tuple [.int 4, .int 4, .int 4, .int 4, .int 4]] :=
      .cons (Dp.tk tk (d := .tuple (us.map PyData.int)) (noLs_ints us) g1) (.cons (Dp.tk tk rfl g2) (.cons (Dp.tk tk rfl g3) (.cons (Dp.tk tk rfl g5) .nil)))
    have nl : noLs [.tuple (us.map PyData.int), .tuple [.int 1, .int 2, .int 3], .tuple [], .tuple [.int 4, .int 4, .int 4, .int 4, .int 4]] = true := by
      show (noLs (us.map PyData.int) && true) = true
      rw [noLs_ints]; rfl
    clear hx nb tk g1 g2 g3 g5
    refine ⟨_, rfl, p, q, _, rfl, S.str, by decide, by decide, fun u Hg u0 u1 b s => ?_⟩
    replace gb := SqT.tk (Tk.but S.str b) gb
    replace gd := DpAll.tk (Tk.but S.str b) nl gd
    replace S := S.draw b s
    clear b s
    obtain ⟨m, rfl, m4⟩ : ∃ m : Nat, (m : Int) = u ∧ m < 4 := ⟨u.toNat, by omega, by omega⟩
    clear u0 u1
    refine ⟨_, _, rfl, rfl, ?_⟩
    generalize hds : ([.tuple (us.map PyData.int), .tuple [.int 1, .int 2, .int 3], .tuple [], .tuple [.int 4, .int 4, .int 4, .int 4, .int 4]] : List PyData) = ds at gd nl
    have d4 : ds.length = 4 := by rw [← hds]; rfl
    generalize hvs : ([.ref tr, .ref t2, .ref t3, .ref t5] : List V) = xs at gb gd
    have x4 : xs.length = 4 := by rw [← hvs]; rfl
    refine ⟨((1 + m : Nat) : Int), rfl, slA_sq gb (fun r Hh sh gr => ?_)⟩
    rw [cut_to _ _ (by omega)] at gr
    have gR : Dp K Hh (.ref r) (.tuple (ds.take (1 + m))) := .tup gr (DpAll.take (1 + m) (DpAll.tk (Same.tk sh) nl gd))
    replace S : Sg q p H Hh := ⟨S.but.same sh, S.str.same sh⟩
    have nR : noL (.tuple (ds.take (1 + m))) = true := noL_mem nl
    have lr : (xs.take (1 + m)).length = 1 + m := by rw [List.length_take]; omega
    clear gb gd sh hds hvs
    -- how many buffers, the arguments
    refine ⟨_, rfl, r, _, rfl, .inr gr, ?_⟩
    rw [lr]
    clear gr
    refine ⟨_, rfl, _, rfl, p, q, _, rfl, S.str, by omega, by omega, fun a1 Hi a10 a11 b s => ?_⟩
    replace gR := Dp.tk (Tk.but S.str b) nR gR
    replace S := S.draw b s
    clear b s
    refine ⟨_, rfl, p, q, _, rfl, S.str, by decide, by decide, fun a2 Hj a20 a21 b s => ?_⟩
    replace gR := Dp.tk (Tk.but S.str b) nR gR
    replace S := S.draw b s
    clear b s
    refine ⟨_, _, rfl, rfl, ?_⟩
    refine ⟨_, rfl, _, rfl, p, q, _, rfl, S.str, by omega, by omega, fun a3 Hk a30 a31 b s => ?_⟩
    replace gR := Dp.tk (Tk.but S.str b) nR gR
    replace S := S.draw b s
    clear b s
    refine ⟨_, rfl, by walk_at "size", fun ta na => ?_⟩
    have gA : Dp K (L2.upd Hk ta (.tup [.int a1, .int (a2 - 1), .int a3, .int 7, .int (-9)])) (.ref ta) (.tuple ([a1, a2 - 1, a3, 7, -9].map PyData.int)) := Dp.ofInts (xs := [a1, a2 - 1, a3, 7, -9]) sqT_laid
    replace gR := Dp.tk (Tk.new (o := .tup [.int a1, .int (a2 - 1), .int a3, .int 7, .int (-9)]) na) nR gR
    replace S := S.new (o := .tup [.int a1, .int (a2 - 1), .int a3, .int 7, .int (-9)]) na
    generalize L2.upd Hk ta (.tup [.int a1, .int (a2 - 1), .int a3, .int 7, .int (-9)]) = Hl at S gA gR ⊢
    clear na
    have nA : noL (.tuple ([a1, a2 - 1, a3, 7, -9].map PyData.int)) = true := noLs_ints _
    generalize hA : [a1, a2 - 1, a3, 7, -9] = A5 at gA nA
    have A5l : A5.length = 5 := by rw [← hA]; rfl
    have A5w : ∀ x ∈ A5, W x := by
      intro x hx
      rw [← hA] at hx
      simp only [List.mem_cons, List.not_mem_nil, or_false] at hx
      unfold W
      omega
    clear hA
    -- the block
    refine ⟨_, rfl, ?_⟩
    walk_at "ls"
    obtain ⟨bk, mb, ex⟩ := pickI [4, 8] u0 u1
    have tk := (Tk.new (o := .lst ([4, 8].map V.int)) nD).trans (Tk.but (S.new (o := .lst ([4, 8].map V.int)) nD).str b)
    replace gR := Dp.tk tk nR gR
    replace gA := Dp.tk tk nA gA
    clear tk
    walk_at "ix"
    have bk8 : 0 < bk ∧ bk ≤ 8 := by
      simp only [List.mem_cons, List.not_mem_nil, or_false] at mb
      omega
    refine ⟨p, q, bk, rfl, S.str, bk8.1, by omega, fun dm Hm dm0 dm1 b s => ?_⟩
    replace gR := Dp.tk (Tk.but S.str b) nR gR
    replace gA := Dp.tk (Tk.but S.str b) nA gA
    replace S := S.draw b s
    replace dm1 : dm < 8 := Int.lt_of_lt_of_le dm1 bk8.2
    clear b s mb bk8
    refine ⟨_, _, rfl, rfl, ?_⟩
    refine ⟨_, rfl, ?_⟩
    walk_at "ls"
    obtain ⟨bk, mb, ex⟩ := pickI [3, 4] u0 u1
    have tk := (Tk.new (o := .lst ([3, 4].map V.int)) nD).trans (Tk.but (S.new (o := .lst ([3, 4].map V.int)) nD).str b)
    replace gR := Dp.tk tk nR gR
    replace gA := Dp.tk tk nA gA
    clear tk
    walk_at "ix"
    have bk8 : 0 < bk ∧ bk ≤ 4 := by
      simp only [List.mem_cons, List.not_mem_nil, or_false] at mb
      omega
    refine ⟨p, q, bk, rfl, S.str, bk8.1, by omega, fun gr Hm gr0 gr1 b s => ?_⟩
    replace gR := Dp.tk (Tk.but S.str b) nR gR
    replace gA := Dp.tk (Tk.but S.str b) nA gA
    replace S := S.draw b s
    replace gr1 : gr < 4 := Int.lt_of_lt_of_le gr1 bk8.2
    clear b s mb bk8
    refine ⟨_, _, rfl, rfl, ?_⟩
    refine ⟨_, rfl, _, rfl, _, rfl, by walk_at "size", fun t nt => ?_⟩
    have nl2 : noL (LN.d ⟨1 + gr, 1 + dm, A5, .tuple (ds.take (1 + m))⟩) = true := by
      show (true && (true && (noL (.tuple (A5.map PyData.int)) && (noL (.tuple (ds.take (1 + m))) && true)))) = true
      rw [nA, nR]; rfl
    exact k _ _ ⟨1 + gr, 1 + dm, A5, .tuple (ds.take (1 + m))⟩ ⟨by show 1 ≤ 1 + gr; omega, by show 1 + gr ≤ 4; omega, by show 1 ≤ 1 + dm; omega, by show 1 + dm ≤ 8; omega, A5l, A5w⟩ nl2 (S.new nt)
      (.tup sqT_laid (.cons (.int _) (.cons (.int _) (.cons (gA.same (same_new5 nt)) (.cons (gR.same (same_new5 nt)) .nil)))))
/-! ### the law's own lanes -/
theorem ok_law_first (T : Tx w K mg) : FnOk P w K mg base CX0 1 T.a_law_first T.d_law_first ["code"] (sp_first_lane K) := by
  refine T.F_law_first.ok sc_law_first (fun vs H Q E h => ?_) (fun cdv A outer s H vs Q E hr h => ?_)
  · obtain ⟨cv, ps, ss, loc, cs, rfl, _⟩ := h
    rfl
  · obtain ⟨cv, ps, ss, loc, cs, rfl, dc, l100, k⟩ := h
    refine ⟨_, (pss_one (ps_ret (pe_tup (pa_cons pe_int (pa_cons (pe_op op_repT (pe_tup (pa_cons pe_int pa_nil)) pe_int) (pa_cons (pe_op op_repA (pe_tup (pa_cons pe_int pa_nil)) (pe_ix ix_tup (pv 0) pe_int (fun _ _ => rfl))) pa_nil)))))), ?_⟩
    refine ⟨by walk_at "size", fun t1 n1 => ?_⟩
    have s1 := same_new5 (o := .tup [.int 0]) n1
    have h1 : SqT K (L2.upd H t1 (.tup [.int 0])) t1 [.int 0] := sqT_laid
    generalize L2.upd H t1 (.tup [.int 0]) = H1 at s1 h1 ⊢
    refine ⟨t1, 8, _, rfl, rfl, h1, (fun e => by cases e), by decide, by decide, by decide, fun t2 n2 => ?_⟩
    have s2 := same_new5 (o := .tup (List.replicate (8 : Int).toNat [V.int 0]).flatten) n2
    have h2 : SqT K (L2.upd H1 t2 (.tup (List.replicate (8 : Int).toNat [V.int 0]).flatten)) t2 ((List.replicate 8 (0 : Int)).map V.int) := sqT_laid
    generalize L2.upd H1 t2 (.tup (List.replicate (8 : Int).toNat [V.int 0]).flatten) = H2 at s2 h2 ⊢
    refine ⟨by walk_at "size", fun t3 n3 => ?_⟩
    have s3 := same_new5 (o := .tup [.int 0]) n3
    have h3 : SqT K (L2.upd H2 t3 (.tup [.int 0])) t3 [.int 0] := sqT_laid
    generalize L2.upd H2 t3 (.tup [.int 0]) = H3 at s3 h3 ⊢
    have s03 := (s1.trans s2).trans s3
    obtain ⟨a, v1, v2, v3, v4, rfl, sq, e1, e2, e3, e4⟩ := Dp.quad (dc.same s03)
    cases Dp.intInv' e3
    refine ⟨_, rfl, _, _, _, _, rfl, rfl, sq, rfl, t3, (loc : Int), _, rfl, rfl, h3, (fun e => by cases e), by omega, by omega, by decide, fun t4 H4 s4 h4 => ?_⟩
    rw [Int.toNat_natCast, rep_int, rep_map] at h4
    refine ⟨by walk_at "size", fun t5 n5 => ?_⟩
    exact k _ _ ((s03.trans s4).trans (same_new5 n5)) (Dp.lay3 n5 (.int 0) (Dp.ofInts (Same.sqt (s3.trans s4) h2)) (Dp.ofInts h4))
theorem ok_law_request (T : Tx w K mg) : FnOk P w K mg base CX0 1 T.a_law_request T.d_law_request ["code", "lane"] (sp_request K) := by
  refine T.F_law_request.ok sc_law_request (fun vs H Q E h => ?_) (fun cdv A outer s H vs Q E hr h => ?_)
  · obtain ⟨cv, lv, ps, ss, loc, np, cs, at_, ws, ls, c, rfl, _⟩ := h
    rfl
  · obtain ⟨cv, lv, ps, ss, loc, np, cs, at_, ws, ls, c, rfl, dc, dl, hc, l8, ok, k⟩ := h
    refine ⟨_, (pss_cons (ps_set (i := 2) sc_law_request.nd rfl (.inl rfl) (pe_ix ix_tup (pe_ix ix_tup (pv 0) pe_int (fun _ _ => rfl)) (pe_ix ix_tup (pv 1) pe_int (fun _ _ => rfl)) (fun _ _ => rfl)))
      (pss_cons (ps_set (i := 3) sc_law_request.nd rfl (.inl rfl) (pe_ix ix_tup (pv 1) pe_int (fun _ _ => rfl)))
      (pss_cons (ps_if (pt_cmpR op_eq (pe_ix ix_tup (pv 2) pe_int (fun _ _ => rfl)) pe_str (nomark _)) (pss_one (ps_ret (pe_tup (pa_cons pe_str (pa_cons (pe_ix ix_tup (pv 2) pe_int (fun _ _ => rfl)) (pa_cons (pe_ix ix_tup (pv 3) (pe_ix ix_tup (pv 2) pe_int (fun _ _ => rfl)) (fun _ _ => rfl)) pa_nil)))))) pss_nil)
      (pss_cons (ps_if (pt_cmpR op_eq (pe_ix ix_tup (pv 2) pe_int (fun _ _ => rfl)) pe_str (nomark _)) (pss_one (ps_ret (pe_tup (pa_cons pe_str (pa_cons (pe_ix ix_tup (pv 2) pe_int (fun _ _ => rfl)) (pa_cons (pe_ix ix_tup (pv 3) (pe_ix ix_tup (pv 2) pe_int (fun _ _ => rfl)) (fun _ _ => rfl)) (pa_cons (pe_ix ix_tup (pv 3) (pe_ix ix_tup (pv 2) pe_int (fun _ _ => rfl)) (fun _ _ => rfl)) pa_nil))))))) pss_nil)
      (pss_cons (ps_if (pt_cmpR op_eq (pe_ix ix_tup (pv 2) pe_int (fun _ _ => rfl)) pe_str (nomark _)) (pss_one (ps_ret (pe_tup (pa_cons pe_str (pa_cons (pe_ix ix_tup (pv 2) pe_int (fun _ _ => rfl)) (pa_cons (pe_ix ix_tup (pv 2) pe_int (fun _ _ => rfl)) (pa_cons (pe_ix ix_tup (pv 3) (pe_ix ix_tup (pv 2) pe_int (fun _ _ => rfl)) (fun _ _ => rfl)) (pa_cons (pe_ix ix_tup (pv 3) (pe_ix ix_tup (pv 2) pe_int (fun _ _ => rfl)) (fun _ _ => rfl)) pa_nil)))))))) pss_nil)
      (pss_cons (ps_if (pt_cmpR op_eq (pe_ix ix_tup (pv 2) pe_int (fun _ _ => rfl)) pe_str (nomark _)) (pss_one (ps_ret (pe_tup (pa_cons pe_str (pa_cons (pe_ix ix_tup (pv 2) pe_int (fun _ _ => rfl)) (pa_cons (pe_ix ix_tup (pv 3) (pe_ix ix_tup (pv 2) pe_int (fun _ _ => rfl)) (fun _ _ => rfl)) (pa_cons (pe_ix ix_tup (pv 2) pe_int (fun _ _ => rfl)) pa_nil))))))) pss_nil)
      (pss_cons (ps_if (pt_cmpR op_in_seq (pe_ix ix_tup (pv 2) pe_int (fun _ _ => rfl)) (pe_tup (pa_cons pe_str (pa_cons pe_str pa_nil))) (by rfl)) (pss_one (ps_ret (pv 2))) pss_nil)
      (pss_one (ps_ret (pe_tup (pa_cons pe_str pa_nil))))))))))), ?_⟩
    obtain ⟨la, w1, w2, w3, rfl, sl, f1, f2, f3⟩ := Dp.tri dl
    cases Dp.intInv' f1
    obtain ⟨a0, v1, v2, v3, b0, ys, u, rfl, sq0, q1, q2, q3⟩ := code_at dc hc
    refine ⟨_, rfl, _, _, _, _, rfl, rfl, sq0, rfl, _, rfl, _, _, _, _, rfl, rfl, sl, rfl, _, _, _, _, rfl, rfl, q1, q2, ?_⟩
    refine ⟨_, rfl, _, _, _, _, rfl, rfl, sl, rfl, ?_⟩
    obtain ⟨a, rfl, sq⟩ := Dp.flat q3 c.flat
    obtain ⟨b, rfl, sr⟩ := Dp.intsT f2
    have ix : ∀ {i : Nat}, i < 8 → atI (ws.map V.int) (i : Int) = some (.int (ws.getD i 0)) := fun h => atI_ints (by omega)
    have fin : ∀ (xs : List PyData), xs = c.req ws → ∀ H1, Same H H1 → ∀ t, H1 t = none → Q (.ref t) (L2.upd H1 t (.tup (xs.map fV))) := fun xs e H1 s1 t nt => by
      subst e
      exact k _ _ (s1.trans (same_new5 nt)) (Dp.ofFlat sqT_laid (c.reqFlat ws))
    have self : c.req ws = c.ds → ∀ H', Same H H' → Q (.ref a) H' := fun e H' s => k _ _ s (by rw [e]; exact q3.same s)
    cases c
    all_goals repeat walk_at "tix"
    case load d x r =>
      exact ⟨_, rfl, _, _, _, _, rfl, rfl, sq, rfl, _, rfl, _, rfl, _, _, _, _, rfl, rfl, sq, rfl, _, _, _, _, rfl, rfl, sr, ix ok.2, by walk_at "size", fun t nt => fin _ rfl _ (.refl H) t nt⟩
    case store x r u =>
      exact ⟨_, rfl, _, _, _, _, rfl, rfl, sq, rfl, _, rfl, _, rfl, _, _, _, _, rfl, rfl, sq, rfl, _, _, _, _, rfl, rfl, sr, ix ok.1, _, rfl, _, rfl, _, _, _, _, rfl, rfl, sq, rfl, _, _, _, _, rfl, rfl, sr, ix ok.2, by walk_at "size", fun t nt => fin _ rfl _ (.refl H) t nt⟩
    case atomic f x r u =>
      exact ⟨_, rfl, _, _, _, _, rfl, rfl, sq, rfl, _, rfl, _, _, _, _, rfl, rfl, sq, rfl, _, rfl, _, rfl, _, _, _, _, rfl, rfl, sq, rfl, _, _, _, _, rfl, rfl, sr, ix ok.1, _, rfl, _, rfl, _, _, _, _, rfl, rfl, sq, rfl, _, _, _, _, rfl, rfl, sr, ix ok.2, by walk_at "size", fun t nt => fin _ rfl _ (.refl H) t nt⟩
    case collect f d r n =>
      exact ⟨_, rfl, _, _, _, _, rfl, rfl, sq, rfl, _, rfl, _, rfl, _, _, _, _, rfl, rfl, sq, rfl, _, _, _, _, rfl, rfl, sr, ix ok.2, _, rfl, _, _, _, _, rfl, rfl, sq, rfl, by walk_at "size", fun t nt => fin _ rfl _ (.refl H) t nt⟩
    all_goals
      refine ⟨_, rfl, _, _, _, _, rfl, rfl, sq, rfl, by walk_at "size", fun t nt => ⟨t, _, rfl, .inr sqT_laid, rfl, rfl, _, rfl, ?_⟩⟩
      first
        | exact iteN (by decide +kernel) ⟨by walk_at "size", fun t2 n2 => fin _ rfl _ (same_new5 nt) t2 n2⟩
        | exact iteY (by decide +kernel) ⟨_, rfl, self rfl _ (same_new5 nt)⟩
/-- what the law says an instruction writes -/
def CI.wrt (l : LN) (t : Int) (ws cs : List Int) (word : Int) (c : CI) : Int := match c with
  | .get _ n => cs.getD n 0
  | c => c.made l t ws word
def sp_law_written (K : PySem.W.Frag) : Sp := fun vs H Q _ => ∃ (iv av lv : V) (t word : Int) (at_ : Int) (ws ls : List Int) (c : CI) (l : LN) (np loc : Nat), vs = [iv, av, lv, .int t, .int word] ∧ Dp K H iv c.d ∧ Dp K H av (laneD at_ ws ls) ∧ Dp K H lv l.d ∧
  ws.length = 8 ∧ ls.length = loc ∧ (∀ x ∈ ws, W x) ∧ c.ok np loc ∧ l.ok np ∧ 0 ≤ t ∧ t < 100 ∧ ∀ H', Same H H' → Q (.int (c.wrt l t ws ls word)) H'
set_option maxHeartbeats 2000000 in
theorem ok_law_written (T : Tx w K mg) : FnOk P w K mg base CX0 3 T.a_law_written T.d_law_written ["row", "lane", "launch", "thread", "word"] (sp_law_written K) := by
  refine T.F_law_written.ok sc_law_written (fun vs H Q E h => ?_) (fun cdv A outer s H vs Q E hr h => ?_)
  · obtain ⟨iv, av, lv, t, word, at_, ws, ls, c, l, np, loc, rfl, _⟩ := h
    rfl
  · obtain ⟨iv, av, lv, th, word, at_, ws, ls, c, l, np, loc, rfl, dc, da, dl, l8, ll, ww, ok, lok, t0, t1, k⟩ := h
    refine ⟨_, (pss_cons (ps_set (i := 5) sc_law_written.nd rfl (.inl rfl) (pe_ix ix_tup (pv 1) pe_int (fun _ _ => rfl)))
      (pss_cons (ps_if (pt_cmpR op_eq (pe_ix ix_tup (pv 0) pe_int (fun _ _ => rfl)) pe_str (nomark _)) (pss_one (ps_ret (pe_ix ix_tup (pv 0) pe_int (fun _ _ => rfl)))) pss_nil)
      (pss_cons (ps_if (pt_cmpR op_eq (pe_ix ix_tup (pv 0) pe_int (fun _ _ => rfl)) pe_str (nomark _)) (pss_one (ps_ret (pe_ix ix_tup (pe_ix ix_tup (pv 2) pe_int (fun _ _ => rfl)) (pe_ix ix_tup (pv 0) pe_int (fun _ _ => rfl)) (fun _ _ => rfl)))) pss_nil)
      (pss_cons (ps_if (pt_cmpR op_eq (pe_ix ix_tup (pv 0) pe_int (fun _ _ => rfl)) pe_str (nomark _)) (pss_cons (ps_set (i := 6) sc_law_written.nd rfl (.inl rfl) (pe_op op_fdivW (pv 3) (pe_ix ix_tup (pv 2) pe_int (fun _ _ => rfl))))
      (pss_cons (ps_set (i := 7) sc_law_written.nd rfl (.inl rfl) (pe_disp (pps_cons pe_str (pe_op op_sub (pv 3) (pe_op op_mul (pv 6) (pe_ix ix_tup (pv 2) pe_int (fun _ _ => rfl)))) (pps_cons pe_str (pv 6) (pps_cons pe_str (pe_ix ix_tup (pv 2) pe_int (fun _ _ => rfl)) (pps_cons pe_str (pe_ix ix_tup (pv 2) pe_int (fun _ _ => rfl)) pps_nil)))) (by rfl) (by rfl) (fun z => by cases z) (by decide)))
      (pss_one (ps_ret (pe_dget (hu_of hr) (pv 7) (pe_ix ix_tup (pv 0) pe_int (fun _ _ => rfl)) (fun _ _ => rfl)))))) pss_nil)
      (pss_cons (ps_if (pt_cmpR op_eq (pe_ix ix_tup (pv 0) pe_int (fun _ _ => rfl)) pe_str (nomark _)) (pss_one (ps_ret (pe_ix ix_tup (pv 5) (pe_ix ix_tup (pv 0) pe_int (fun _ _ => rfl)) (fun _ _ => rfl)))) pss_nil)
      (pss_cons (ps_if (pt_cmpR op_eq (pe_ix ix_tup (pv 0) pe_int (fun _ _ => rfl)) pe_str (nomark _)) (pss_one (ps_ret (pe_call (ok_law_unary T) (hr.mono (by decide)) (by rfl) T.g_law_unary T.F_law_unary.kp T.b_law_unary .nil pass0 (pa_cons (pe_ix ix_tup (pv 0) pe_int (fun _ _ => rfl)) (pa_cons (pe_ix ix_tup (pv 5) (pe_ix ix_tup (pv 0) pe_int (fun _ _ => rfl)) (fun _ _ => rfl)) pa_nil))))) pss_nil)
      (pss_cons (ps_if (pt_cmpR op_eq (pe_ix ix_tup (pv 0) pe_int (fun _ _ => rfl)) pe_str (nomark _)) (pss_one (ps_ret (pe_call (ok_law_binary T) (hr.mono (by decide)) (by rfl) T.g_law_binary T.F_law_binary.kp T.b_law_binary .nil pass0 (pa_cons (pe_ix ix_tup (pv 0) pe_int (fun _ _ => rfl)) (pa_cons (pe_ix ix_tup (pv 5) (pe_ix ix_tup (pv 0) pe_int (fun _ _ => rfl)) (fun _ _ => rfl)) (pa_cons (pe_ix ix_tup (pv 5) (pe_ix ix_tup (pv 0) pe_int (fun _ _ => rfl)) (fun _ _ => rfl)) pa_nil)))))) pss_nil)
      (pss_cons (ps_if (pt_cmpR op_eq (pe_ix ix_tup (pv 0) pe_int (fun _ _ => rfl)) pe_str (nomark _)) (pss_one (ps_ret (pe_ix ix_tup (pe_ix ix_tup (pv 1) pe_int (fun _ _ => rfl)) (pe_ix ix_tup (pv 0) pe_int (fun _ _ => rfl)) (fun _ _ => rfl)))) pss_nil)
      (pss_one (ps_ret (pv 4))))))))))), ?_⟩
    obtain ⟨la, v1, v2, v3, v4, rfl, sl, e1, e2, e3, e4⟩ := Dp.quad dl
    cases Dp.intInv' e1
    cases Dp.intInv' e2
    obtain ⟨ab, rfl, sa⟩ := Dp.intsT e3
    obtain ⟨na, w1, w2, w3, rfl, sn, f1, f2, f3⟩ := Dp.tri da
    cases Dp.intInv' f1
    have lo := lok
    obtain ⟨g1, g2, d1, d2, al, aw⟩ := lo
    have wd : CDivW th l.dim := wide_div (b := 100) (by omega) (by omega) (by omega) (by omega)
    obtain ⟨a, rfl, sq⟩ := Dp.flat dc c.flat
    obtain ⟨b, rfl, sr⟩ := Dp.intsT f2
    obtain ⟨cb, rfl, sc⟩ := Dp.intsT f3
    have ix : ∀ {i : Nat}, i < 8 → atI (ws.map V.int) (i : Int) = some (.int (ws.getD i 0)) := fun h => atI_ints (by omega)
    have wx : ∀ {i : Nat}, i < 8 → W (ws.getD i 0) := fun {i} h => ww _ (by rw [List.getD_eq_getElem?_getD, List.getElem?_eq_getElem (by omega)]; exact List.getElem_mem (by omega))
    refine ⟨_, rfl, _, _, _, _, rfl, rfl, sn, rfl, ?_⟩
    cases c
    all_goals repeat walk_at "tix"
    case word d n => exact ⟨_, rfl, _, _, _, _, rfl, rfl, sq, rfl, k _ (.refl H)⟩
    case param d n => exact ⟨_, rfl, _, _, _, _, rfl, rfl, sl, rfl, _, rfl, _, _, _, _, rfl, rfl, sq, rfl, _, _, _, _, rfl, rfl, sa, atI_ints (by have := ok.2; omega), k _ (.refl H)⟩
    case special d x =>
      refine ⟨_, rfl, _, rfl, _, _, _, _, rfl, rfl, sl, rfl, _, _, rfl, rfl, wd, ?_⟩
      intro D nD
      have sl0 := Same.sqt (same_new5 (o := .dK []) nD) sl
      have q0 : 0 ≤ th / l.dim := Int.ediv_nonneg t0 (by omega)
      have q1 : th / l.dim ≤ th := Int.ediv_le_self _ t0
      refine ⟨_, rfl, _, rfl, _, rfl, _, _, _, _, rfl, rfl, sl0, rfl, _, _, rfl, rfl, .inr ⟨by omega, by omega⟩, _, _, rfl, rfl, ?_⟩
      refine ⟨_, rfl, _, rfl, _, _, _, _, rfl, rfl, sl0, rfl, _, rfl, _, _, _, _, rfl, rfl, sl0, rfl, ?_⟩
      refine ⟨upd_same, [(Sum.inr "tid", .int (th - th / l.dim * l.dim)), (Sum.inr "bid", .int (th / l.dim)), (Sum.inr "dim", .int l.dim), (Sum.inr "grid", .int l.grid)], rfl, (by show 4 ≤ 15; decide), ?_⟩
      have sD : Same H (L2.upd (L2.upd H D (.dK [])) D (.dK (mergeK [] [(Sum.inr "tid", .int (th - th / l.dim * l.dim)), (Sum.inr "bid", .int (th / l.dim)), (Sum.inr "dim", .int l.dim), (Sum.inr "grid", .int l.grid)]))) := fun b o hb => by
        have nb : b ≠ D := fun e => by rw [e, nD] at hb; cases hb
        rw [upd_ne nb, upd_ne nb]; exact hb
      have em : th - th / l.dim * l.dim = th % l.dim := by rw [Int.emod_def, Int.mul_comm]
      have row : ∀ x : Sp4, valV (mergeK [] [((Sum.inr "tid" : Key), V.int (th - th / l.dim * l.dim)), (Sum.inr "bid", .int (th / l.dim)), (Sum.inr "dim", .int l.dim), (Sum.inr "grid", .int l.grid)]) (Sum.inr x.s) = some (.int (l.sp th x)) := fun x => by
        rw [em]
        cases x <;> rfl
      exact ⟨_, rfl, _, rfl, _, _, _, _, rfl, rfl, Same.sqt sD sq, rfl, D, _, rfl, dget (k := Sum.inr x.s) upd_same (row x), k _ sD⟩
    case copy d r => exact ⟨_, rfl, _, rfl, _, _, _, _, rfl, rfl, sq, rfl, _, _, _, _, rfl, rfl, sr, ix ok.2, k _ (.refl H)⟩
    case unary u d r => exact ⟨_, rfl, _, _, _, _, rfl, rfl, sq, rfl, _, rfl, _, rfl, _, _, _, _, rfl, rfl, sq, rfl, _, _, _, _, rfl, rfl, sr, ix ok.2, u, _, rfl, wx ok.2, fun H2 s2 => k _ s2⟩
    case binary o d r u => exact ⟨_, rfl, _, _, _, _, rfl, rfl, sq, rfl, _, rfl, _, rfl, _, _, _, _, rfl, rfl, sq, rfl, _, _, _, _, rfl, rfl, sr, ix ok.2.1, _, rfl, _, rfl, _, _, _, _, rfl, rfl, sq, rfl, _, _, _, _, rfl, rfl, sr, ix ok.2.2, o, _, _, rfl, wx ok.2.1, wx ok.2.2, fun H2 s2 => k _ s2⟩
    case get d n => exact ⟨_, rfl, _, _, _, _, rfl, rfl, sn, rfl, _, rfl, _, _, _, _, rfl, rfl, sq, rfl, _, _, _, _, rfl, rfl, sc, atI_ints (by have := ok.2; omega), k _ (.refl H)⟩
    all_goals exact ⟨_, rfl, k _ (.refl H)⟩
theorem ixN_at {n j : Nat} (h : j < n) : ixN n (j : Int) = some j := by
  unfold ixN
  rw [if_pos (by omega), if_pos (by omega)]
  simp
set_option maxHeartbeats 4000000 in
theorem ok_law_behind (T : Tx w K mg) : FnOk P w K mg base CX0 4 T.a_law_behind T.d_law_behind ["code", "launch", "thread", "lane", "word"] (sp_behind K) := by
  refine T.F_law_behind.ok sc_law_behind (fun vs H Q E h => ?_) (fun cdv A outer s H vs Q E hr h => ?_)
  · obtain ⟨cv, lv, av, t, word, ps, ss, loc, np, cs, at_, ws, ls, c, l, rfl, _⟩ := h
    rfl
  · obtain ⟨cv, lv, av, t, word, ps, ss, loc, np, cs, at_, ws, ls, c, l, rfl, dc, da, hc, l8, ll, l100, ww, ok, dl, lok, t0, t1, k⟩ := h
    refine ⟨_, (pss_cons (ps_set (i := 5) sc_law_behind.nd rfl (.inl rfl) (pe_ix ix_tup (pe_ix ix_tup (pv 0) pe_int (fun _ _ => rfl)) (pe_ix ix_tup (pv 3) pe_int (fun _ _ => rfl)) (fun _ _ => rfl)))
      (pss_cons (ps_set (i := 6) sc_law_behind.nd rfl (.inl rfl) (pe_callTy call_list_of (by rfl) T.z_list (by decide +kernel) (pa_cons (pe_ix ix_tup (pv 3) pe_int (fun _ _ => rfl)) pa_nil)))
      (pss_cons (ps_set (i := 7) sc_law_behind.nd rfl (.inl rfl) (pe_callTy call_list_of (by rfl) T.z_list (by decide +kernel) (pa_cons (pe_ix ix_tup (pv 3) pe_int (fun _ _ => rfl)) pa_nil)))
      (pss_cons (ps_set (i := 8) sc_law_behind.nd rfl (.inl rfl) (pe_op op_add (pe_ix ix_tup (pv 3) pe_int (fun _ _ => rfl)) pe_int))
      (pss_cons (ps_if (pt_cmpR op_eq (pe_ix ix_tup (pv 5) pe_int (fun _ _ => rfl)) pe_str (nomark _)) (pss_one (ps_ret (pv 3))) pss_nil)
      (C8.pss_cut (ps_if (pt_cmpR op_eq (pe_ix ix_tup (pv 5) pe_int (fun _ _ => rfl)) pe_str (nomark _)) (pss_one (ps_set (i := 8) sc_law_behind.nd rfl (.inl rfl) (pe_ix ix_tup (pv 5) pe_int (fun _ _ => rfl)))) (pss_one (ps_if (pt_cmpR op_eq (pe_ix ix_tup (pv 5) pe_int (fun _ _ => rfl)) pe_str (nomark _)) (pss_one (ps_if (pt_cmpR op_ne (pe_ix ix_list (pv 6) (pe_ix ix_tup (pv 5) pe_int (fun _ _ => rfl)) (fun _ _ => rfl)) pe_int (nomark _)) (pss_one (ps_set (i := 8) sc_law_behind.nd rfl (.inl rfl) (pe_ix ix_tup (pv 5) pe_int (fun _ _ => rfl)))) pss_nil)) (pss_one (ps_if (pt_cmpR op_eq (pe_ix ix_tup (pv 5) pe_int (fun _ _ => rfl)) pe_str (nomark _)) (pss_one (ps_asg (pe_ix ix_list (pv 6) (pe_ix ix_tup (pv 5) pe_int (fun _ _ => rfl)) (fun _ _ => rfl)) (pg_sub (pv 7) (pe_ix ix_tup (pv 5) pe_int (fun _ _ => rfl)) set_list))) (pss_one (ps_if (pt_cmpR op_in_seq (pe_ix ix_tup (pv 5) pe_int (fun _ _ => rfl)) (pe_tup (pa_cons pe_str (pa_cons pe_str (pa_cons pe_str pa_nil)))) (by rfl)) (pss_one (ps_asg (pe_call (ok_law_written T) (hr.mono (by decide)) (by rfl) T.g_law_written T.F_law_written.kp T.b_law_written .nil pass0 (pa_cons (pv 5) (pa_cons (pv 3) (pa_cons (pv 1) (pa_cons (pv 2) (pa_cons (pv 4) pa_nil)))))) (pg_sub (pv 6) (pe_ix ix_tup (pv 5) pe_int (fun _ _ => rfl)) set_list))) (pss_one (ps_if (pt_cmpR op_notIn_seq (pe_ix ix_tup (pv 5) pe_int (fun _ _ => rfl)) (pe_tup (pa_cons pe_str (pa_cons pe_str (pa_cons pe_str pa_nil)))) (by rfl)) (pss_one (ps_asg (pe_call (ok_law_written T) (hr.mono (by decide)) (by rfl) T.g_law_written T.F_law_written.kp T.b_law_written .nil pass0 (pa_cons (pv 5) (pa_cons (pv 3) (pa_cons (pv 1) (pa_cons (pv 2) (pa_cons (pv 4) pa_nil)))))) (pg_sub (pv 6) (pe_ix ix_tup (pv 5) pe_int (fun _ _ => rfl)) set_list))) pss_nil)))))))))
      (pss_one (ps_ret (pe_tup (pa_cons (pv 8) (pa_cons (pe_callTy call_tuple_of (by rfl) T.z_tuple (by decide +kernel) (pa_cons (pv 6) pa_nil)) (pa_cons (pe_callTy call_tuple_of (by rfl) T.z_tuple (by decide +kernel) (pa_cons (pv 7) pa_nil)) pa_nil)))))))))))), ?_⟩
    obtain ⟨la, w1, w2, w3, rfl, sl, f1, f2, f3⟩ := Dp.tri da
    cases Dp.intInv' f1
    obtain ⟨a, v1, v2, v3, b, ys, u, rfl, sq0, q1, q2, q3⟩ := code_at dc hc
    obtain ⟨ia, rfl, sq⟩ := Dp.flat q3 c.flat
    obtain ⟨rb, rfl, sr⟩ := Dp.intsT f2
    obtain ⟨lb, rfl, sl2⟩ := Dp.intsT f3
    refine ⟨_, rfl, _, _, _, _, rfl, rfl, sq0, rfl, _, rfl, _, _, _, _, rfl, rfl, sl, rfl, _, _, _, _, rfl, rfl, q1, q2, ?_⟩
    refine ⟨_, rfl, _, _, _, _, rfl, rfl, sl, rfl, rb, _, rfl, .inr sr, fun D1 n1 => ?_⟩
    have s1 := same_new5 (o := .lst (ws.map V.int)) n1
    have h1 : L2.upd H D1 (.lst (ws.map V.int)) D1 = some (.lst (ws.map V.int)) := upd_same
    generalize L2.upd H D1 (.lst (ws.map V.int)) = H1 at s1 h1 ⊢
    refine ⟨_, rfl, _, _, _, _, rfl, rfl, Same.sqt s1 sl, rfl, lb, _, rfl, .inr (Same.sqt s1 sl2), fun D2 n2 => ?_⟩
    have n21 : D2 ≠ D1 := fun e => by rw [e, h1] at n2; cases n2
    have s2 := same_new5 (o := .lst (ls.map V.int)) n2
    have h2 : L2.upd H1 D2 (.lst (ls.map V.int)) D2 = some (.lst (ls.map V.int)) := upd_same
    replace h1 := s2 _ _ h1
    have n2' : H D2 = none := by
      cases e : H D2 with
      | none => rfl
      | some o => rw [s1 _ _ e] at n2; cases n2
    replace s2 := s1.trans s2
    generalize L2.upd H1 D2 (.lst (ls.map V.int)) = H2 at s2 h1 h2 ⊢
    clear s1 n2
    have sl' := Same.sqt s2 sl
    have sq' := Same.sqt s2 sq
    refine ⟨_, rfl, _, _, _, _, rfl, rfl, sl', rfl, _, _, rfl, rfl, ?_⟩
    clear sq
    have sq := sq'
    have ix : ∀ {i : Nat}, i < 8 → atI (ws.map V.int) (i : Int) = some (.int (ws.getD i 0)) := fun h => atI_ints (by omega)
    have rl : (c.regs l t ws ls word).length = 8 := by cases c <;> simp only [CI.regs, CI.wr, List.length_set, l8]
    have ed : c ≠ .exit → c.bh l t at_ ws ls word = laneD (c.nx at_ (c.regs l t ws ls word)) (c.regs l t ws ls word) (c.locs ws ls) := fun ne => by
      cases c <;> first | rfl | exact absurd rfl ne
    generalize hB : c.bh l t at_ ws ls word = B at k ed
    generalize hR : c.regs l t ws ls word = R at rl ed
    generalize hL : c.locs ws ls = L at ed
    generalize hN : c.nx at_ R = N at ed
    have done : ∀ (d : Nat) (H5 : Hp), Same H2 H5 → R = ws.set d (c.wrt l t ws ls word) → L = ls → N = (at_ : Int) + 1 →
        [some (V.ref a), some lv, some (.int t), some (.ref la), some (.int word), some (.ref ia), some (.ref D1), some (.ref D2), some (.int ((at_ : Int) + 1))] = [some (V.ref a), some lv, some (.int t), some (.ref la), some (.int word), some (.ref ia), some (.ref D1), some (.ref D2), some (.int N)] ∧
        Same H (L2.upd H5 D1 (.lst ((ws.map V.int).set d (.int (c.wrt l t ws ls word))))) ∧ L2.upd H5 D1 (.lst ((ws.map V.int).set d (.int (c.wrt l t ws ls word)))) D1 = some (.lst (R.map V.int)) ∧ L2.upd H5 D1 (.lst ((ws.map V.int).set d (.int (c.wrt l t ws ls word)))) D2 = some (.lst (L.map V.int)) := by
      intro d H5 s5 eR eL eN
      refine ⟨by rw [eN], fun b o e => ?_, ?_, ?_⟩
      · rw [upd_ne (fun z => by rw [z, n1] at e; cases e)]; exact s5 _ _ (s2 _ _ e)
      · rw [upd_same, eR, List.map_set]
      · rw [upd_ne n21, eL]; exact s5 _ _ h2
    cases c
    case exit => exact ⟨_, rfl, _, _, _, _, rfl, rfl, sq, rfl, rfl, _, rfl, iteY (by decide +kernel) ⟨_, rfl, k _ _ s2 (by rw [← hB]; exact da.same s2)⟩⟩
    all_goals
      refine ⟨_, rfl, _, _, _, _, rfl, rfl, sq, rfl, rfl, _, rfl, iteN (by decide +kernel) ?_⟩
      refine ⟨fun σ' H' => σ' = [some (.ref a), some lv, some (.int t), some (.ref la), some (.int word), some (.ref ia), some (.ref D1), some (.ref D2), some (.int N)] ∧ Same H H' ∧ H' D1 = some (.lst (R.map V.int)) ∧ H' D2 = some (.lst (L.map V.int)), ?_, (by
        rintro σ' H3 ⟨rfl, s3, h3, h4⟩
        refine ⟨_, rfl, _, rfl, D1, _, rfl, .inl ⟨SqL.of h3, fun t1 m1 => ?_⟩⟩
        refine ⟨_, rfl, D2, _, rfl, .inl ⟨SqL.of (same_new5 m1 _ _ h4), fun t2 m2 => ⟨by walk_at "size", fun r nr => ?_⟩⟩⟩
        refine k _ _ (((s3.trans (same_new5 m1)).trans (same_new5 m2)).trans (same_new5 nr)) ?_
        rw [ed (fun e => by cases e)]
        exact Dp.lay3 nr (.int _) (Dp.ofInts (Same.sqt (same_new5 m2) sqT_laid)) (Dp.ofInts sqT_laid))⟩
    case jump x =>
      refine ⟨_, rfl, _, _, _, _, rfl, rfl, sq, rfl, rfl, _, rfl, iteY (by decide +kernel) ⟨_, rfl, _, _, _, _, rfl, rfl, sq, rfl, ?_⟩⟩
      rw [← hN, ← hR, ← hL]
      exact ⟨rfl, s2, h1, h2⟩
    all_goals refine ⟨_, rfl, _, _, _, _, rfl, rfl, sq, rfl, rfl, _, rfl, iteN (by decide +kernel) ?_⟩
    case branch r x j =>
      refine ⟨_, rfl, _, _, _, _, rfl, rfl, sq, rfl, rfl, _, rfl, iteY (by decide +kernel) ?_⟩
      refine ⟨_, rfl, _, rfl, _, _, _, _, rfl, rfl, sq, rfl, D1, _, _, _, rfl, rfl, SqL.of h1, ix ok, rfl, _, rfl, ?_⟩
      rw [← hN, ← hR, ← hL]
      by_cases z : ws.getD r 0 = 0
      · have e : CI.nx at_ ws (.branch r x j) = (at_ : Int) + 1 := if_pos z
        rw [show CI.regs l t ws ls word (.branch r x j) = ws from rfl, e]
        exact iteN (congrArg (! ·) (decide_eq_true (by rw [z]))) ⟨rfl, s2, h1, h2⟩
      · have e : CI.nx at_ ws (.branch r x j) = x := if_neg z
        rw [show CI.regs l t ws ls word (.branch r x j) = ws from rfl, e]
        exact iteY (congrArg (! ·) (decide_eq_false fun e => z (V.int.inj e))) ⟨_, rfl, _, _, _, _, rfl, rfl, sq, rfl, rfl, s2, h1, h2⟩
    all_goals refine ⟨_, rfl, _, _, _, _, rfl, rfl, sq, rfl, rfl, _, rfl, iteN (by decide +kernel) ?_⟩
    case keep n r =>
      refine ⟨_, rfl, _, _, _, _, rfl, rfl, sq, rfl, rfl, _, rfl, iteY (by decide +kernel) ?_⟩
      refine ⟨_, rfl, _, rfl, _, _, _, _, rfl, rfl, sq, rfl, D1, _, _, _, rfl, rfl, SqL.of h1, ix ok.2, ?_⟩
      refine ⟨_, rfl, _, rfl, _, _, _, _, rfl, rfl, sq, rfl, D2, _, _, n, rfl, rfl, h2, ixN_at (by rw [List.length_map]; have := ok.1; omega), ?_⟩
      rw [← hN, ← hR, ← hL]
      refine ⟨rfl, fun b o e => ?_, ?_, ?_⟩
      · rw [upd_ne (fun z => by rw [z, n2'] at e; cases e)]; exact s2 _ _ e
      · rw [upd_ne n21.symm]; exact h1
      · rw [upd_same, ← List.map_set]; rfl
    all_goals refine ⟨_, rfl, _, _, _, _, rfl, rfl, sq, rfl, rfl, _, rfl, iteN (by decide +kernel) ?_⟩
    case unary | binary | collect =>
      refine ⟨_, rfl, _, _, _, _, rfl, rfl, sq, rfl, by walk_at "size", fun tq nq => ⟨tq, _, rfl, .inr sqT_laid, rfl, rfl, _, rfl, iteY (by decide +kernel) ?_⟩⟩
      have s4 := same_new5 (o := .tup [.str "unary", .str "binary", .str "collect"]) nq
      have s24 := s2.trans s4
      refine ⟨_, rfl, _, rfl, _, rfl, _, rfl, _, rfl, .ref ia, .ref la, lv, t, word, at_, ws, ls, _, l, np, loc, rfl, q3.same s24, da.same s24, dl.same s24, l8, ll, ww, ok, lok, t0, t1, fun H5 s5 => ?_⟩
      have s45 := s4.trans s5
      refine ⟨_, rfl, _, rfl, _, _, _, _, rfl, rfl, Same.sqt s45 sq, rfl, D1, _, _, _, rfl, rfl, s45 _ _ h1, ixN_at (by rw [List.length_map, l8]; have := ok.1; omega), ?_⟩
      exact done _ H5 s45 hR.symm hL.symm hN.symm
    all_goals
      refine ⟨_, rfl, _, _, _, _, rfl, rfl, sq, rfl, by walk_at "size", fun tq nq => ⟨tq, _, rfl, .inr sqT_laid, rfl, rfl, _, rfl, iteN (by decide +kernel) ?_⟩⟩
      have s4 := same_new5 (o := .tup [.str "unary", .str "binary", .str "collect"]) nq
      generalize L2.upd H2 tq (.tup [.str "unary", .str "binary", .str "collect"]) = H3 at s4 ⊢
      refine ⟨_, rfl, _, _, _, _, rfl, rfl, Same.sqt s4 sq, rfl, by walk_at "size", fun tq nq => ?_⟩
    case store | atomic | barrier =>
      refine ⟨tq, _, rfl, .inr sqT_laid, rfl, rfl, _, rfl, iteN (by decide +kernel) ?_⟩
      have s24 := s4.trans (same_new5 (o := .tup [.str "store", .str "atomic", .str "barrier"]) nq)
      refine ⟨?_, s2.trans s24, ?_, ?_⟩
      · rw [← hN]; rfl
      · rw [← hR]; exact s24 _ _ h1
      · rw [← hL]; exact s24 _ _ h2
    all_goals
      refine ⟨tq, _, rfl, .inr sqT_laid, rfl, rfl, _, rfl, iteY (by decide +kernel) ?_⟩
      replace s4 := s4.trans (same_new5 (o := .tup [.str "store", .str "atomic", .str "barrier"]) nq)
      have s24 := s2.trans s4
      refine ⟨_, rfl, _, rfl, _, rfl, _, rfl, _, rfl, .ref ia, .ref la, lv, t, word, at_, ws, ls, _, l, np, loc, rfl, q3.same s24, da.same s24, dl.same s24, l8, ll, ww, ok, lok, t0, t1, fun H5 s5 => ?_⟩
      have s45 := s4.trans s5
      refine ⟨_, rfl, _, rfl, _, _, _, _, rfl, rfl, Same.sqt s45 sq, rfl, D1, _, _, _, rfl, rfl, s45 _ _ h1, ixN_at (by rw [List.length_map, l8]; first | exact ok.1 | exact ok), ?_⟩
      exact done _ H5 s45 hR.symm hL.symm hN.symm
/-! ### data that can be shown and compared -/
structure Plain (d : PyData) (n k : Nat) : Prop where
  able : d.showable = true
  dict : d.hasDict = false
  deep : d.depth ≤ k
  short : d.leavesShort 32 = true
  bulk : d.bulk ≤ n
  lay : d.canLay0 = true
structure PlainAll (ds : List PyData) (n k : Nat) : Prop where
  able : PyData.showableAll ds = true
  dict : PyData.hasDictAll ds = false
  deep : PyData.depthAll ds ≤ k
  short : PyData.leavesShortAll 32 ds = true
  bulk : PyData.bulkAll ds ≤ n
  lay : PyData.canLayAll0 ds = true
theorem PlainAll.nil {k : Nat} : PlainAll [] 0 k := ⟨rfl, rfl, Nat.zero_le _, rfl, Nat.le_refl _, rfl⟩
theorem PlainAll.cons {d : PyData} {ds : List PyData} {n m k : Nat} (h : Plain d n k) (g : PlainAll ds m k) : PlainAll (d :: ds) (n + 1 + m) k := by
  refine ⟨?_, ?_, ?_, ?_, ?_, ?_⟩
  · simp only [PyData.showableAll, h.able, g.able, Bool.and_self]
  · simp only [PyData.hasDictAll, h.dict, g.dict, Bool.or_self]
  · have a := h.deep; have b := g.deep; simp only [PyData.depthAll]; omega
  · simp only [PyData.leavesShortAll, h.short, g.short, Bool.and_self]
  · have a := h.bulk; have b := g.bulk; simp only [PyData.bulkAll]; omega
  · simp only [PyData.canLayAll0, h.lay, g.lay, Bool.and_self]
theorem PlainAll.tup {ds : List PyData} {n k : Nat} (g : PlainAll ds n k) : Plain (.tuple ds) n (k + 1) := by
  refine ⟨?_, ?_, ?_, ?_, ?_, ?_⟩
  · simp only [PyData.showable, g.able]
  · simp only [PyData.hasDict, g.dict]
  · have b := g.deep; simp only [PyData.depth]; omega
  · simp only [PyData.leavesShort, g.short]
  · have b := g.bulk; simp only [PyData.bulk]; omega
  · simp only [PyData.canLay0, g.lay]
theorem Plain.mono {d : PyData} {n k n' k' : Nat} (h : Plain d n k) (hn : n ≤ n') (hk : k ≤ k') : Plain d n' k' := ⟨h.able, h.dict, Nat.le_trans h.deep hk, h.short, Nat.le_trans h.bulk hn, h.lay⟩
theorem PlainAll.mono {ds : List PyData} {n k n' k' : Nat} (h : PlainAll ds n k) (hn : n ≤ n') (hk : k ≤ k') : PlainAll ds n' k' := ⟨h.able, h.dict, Nat.le_trans h.deep hk, h.short, Nat.le_trans h.bulk hn, h.lay⟩
theorem Plain.int {i : Int} (h : i.natAbs < 10 ^ 20) : Plain (.int i) 0 0 := by
  refine ⟨?_, rfl, Nat.le_refl _, ?_, Nat.le_refl _, rfl⟩
  · simp only [PyData.showable]
    refine decide_eq_true ?_
    by_cases z : i.natAbs = 0
    · rw [z]; decide
    · exact Nat.lt_of_lt_of_le ((Nat.log2_lt z).mpr (Nat.lt_trans h (by decide : 10 ^ 20 < 2 ^ 70))) (by decide)
  · have a : (toString i).length ≤ 20 + 1 := int_text_length_le10 (by decide) h
    simp only [PyData.leavesShort]
    refine decide_eq_true ?_
    simp only [PyData.shown]
    rw [PySem.ofString_length]
    exact Nat.le_trans a (by decide)
theorem Plain.word {i : Int} (h : W i) : Plain (.int i) 0 0 := Plain.int (by unfold W at h; omega)
theorem PlainAll.ints : ∀ {xs : List Int}, (∀ x ∈ xs, x.natAbs < 10 ^ 20) → PlainAll (xs.map PyData.int) xs.length 0
  | [], _ => PlainAll.nil
  | x :: xs, h => (PlainAll.cons (Plain.int (h x (.head _))) (PlainAll.ints fun y m => h y (.tail _ m))).mono (by rw [List.length_cons]; omega) (Nat.le_refl _)
def strFine (s : Str) : Bool := s.cps.toList.all (fun c => decide (c < 16 ^ 8)) && decide (s.cps.size ≤ 20) && (PyData.str s).canLay0
theorem Plain.str {s : Str} (h : strFine s = true) : Plain (.str s) 20 0 := by
  have h' := Bool.and_eq_true_iff.mp h
  have h2 := Bool.and_eq_true_iff.mp h'.1
  exact ⟨rfl, rfl, Nat.le_refl _, by simp only [PyData.leavesShort]; exact h2.1, by simp only [PyData.bulk]; exact of_decide_eq_true h2.2, h'.2⟩
theorem Plain.shows {d : PyData} {n k : Nat} (h : Plain d n k) (hn : n ≤ 10000) (hk : k ≤ 60) : Shows d := by
  refine ⟨h.able, h.dict, Nat.le_trans h.deep hk, ?_⟩
  have a := PyData.shown_le_bulk 32 (by decide) d h.short
  have b := h.bulk
  refine Nat.le_trans a (Nat.le_trans (show _ ≤ 400000 from ?_) (by rw [sizeLine_eq]; decide))
  have c : (32 + 2) * d.bulk ≤ 34 * 10000 := Nat.mul_le_mul (Nat.le_refl _) (Nat.le_trans b hn)
  omega
theorem Plain.shaped {d : PyData} {n k : Nat} (h : Plain d n k) (hk : k ≤ 60) : SeqAt.shaped d = true := Bool.and_eq_true_iff.mpr ⟨h.lay, decide_eq_true (by have := h.deep; omega)⟩
theorem Plain.eqv {d : PyData} {n k : Nat} (h : Plain d n k) (hk : k ≤ 60) : PyData.eqv d d = true := SeqAt.eqv_refl _ (SeqAt.canLay_of_shaped (h.shaped hk))
theorem getD_W {ws : List Int} (h : ∀ x ∈ ws, W x) (i : Nat) : W (ws.getD i 0) := by
  rw [List.getD_eq_getElem?_getD]
  by_cases z : i < ws.length
  · rw [List.getElem?_eq_getElem z]; exact h _ (List.getElem_mem z)
  · rw [List.getElem?_eq_none (by omega)]; show W 0; unfold W; decide
theorem small20 {a : Int} (h0 : 0 ≤ a) (h1 : a ≤ 1000) : a.natAbs < 10 ^ 20 := by omega
theorem lane_plain {x : Int} {ws cs : List Int} (hx : x.natAbs < 10 ^ 20) (hw : ∀ y ∈ ws, y.natAbs < 10 ^ 20) (hc : ∀ y ∈ cs, y.natAbs < 10 ^ 20) (lw : ws.length ≤ 100) (lc : cs.length ≤ 100) : Plain (laneD x ws cs) 300 2 := by
  have a : Plain (.tuple (ws.map PyData.int)) 100 1 := (PlainAll.ints hw).tup.mono lw (Nat.le_refl _)
  have b : Plain (.tuple (cs.map PyData.int)) 100 1 := (PlainAll.ints hc).tup.mono lc (Nat.le_refl _)
  exact (PlainAll.tup (.cons ((Plain.int hx).mono (Nat.le_refl _) (by decide)) (.cons a (.cons b .nil)))).mono (by decide) (by decide)
theorem W_small {x : Int} (h : W x) : x.natAbs < 10 ^ 20 := by unfold W at h; omega
theorem made_W {ps : List PyData} {loc : Nat} {c : CI} (ok : c.ok ps.length loc) {l : LN} (lok : l.ok ps.length) {t word : Int} (t0 : 0 ≤ t) (t1 : t < 100) {ws : List Int} (hw : ∀ x ∈ ws, W x) (hword : W word) : W (c.made l t ws word) := by
  obtain ⟨g1, g2, d1, d2, al, aw⟩ := lok
  cases c with
  | word d n => exact ok.2
  | param d k =>
    show W (l.args.getD k 0)
    exact getD_W aw k
  | special d x =>
    show W (l.sp t x)
    have e0 : 0 ≤ t % l.dim := Int.emod_nonneg _ (by omega)
    have e1 : t % l.dim < l.dim := Int.emod_lt_of_pos _ (by omega)
    have q0 : 0 ≤ t / l.dim := Int.ediv_nonneg t0 (by omega)
    have q1 : t / l.dim ≤ t := Int.ediv_le_self _ t0
    cases x
    · show W (t % l.dim); unfold W; omega
    · show W (t / l.dim); unfold W; omega
    · show W l.dim; unfold W; omega
    · show W l.grid; unfold W; omega
  | copy d r => exact getD_W hw r
  | unary u d r => exact wrap_W _
  | binary o d r t => exact wrap_W _
  | _ => exact hword
theorem set_W {ws : List Int} {d : Nat} {x : Int} (hw : ∀ y ∈ ws, W y) (hx : W x) : ∀ y ∈ ws.set d x, W y := fun y m => (List.mem_or_eq_of_mem_set m).elim (hw y) fun e => e ▸ hx
theorem regs_W {ps : List PyData} {loc : Nat} {c : CI} (ok : c.ok ps.length loc) {l : LN} (lok : l.ok ps.length) {t word : Int} (t0 : 0 ≤ t) (t1 : t < 100) {ws ls : List Int} (hw : ∀ x ∈ ws, W x) (hl : ∀ x ∈ ls, W x) (hword : W word) : ∀ y ∈ c.regs l t ws ls word, W y := by
  have mW := made_W ok lok t0 t1 hw hword
  cases c with
  | get d n => exact set_W hw (getD_W hl n)
  | word d n => exact set_W hw mW
  | param d k => exact set_W hw mW
  | special d x => exact set_W hw mW
  | copy d r => exact set_W hw mW
  | unary u d r => exact set_W hw mW
  | binary o d r t => exact set_W hw mW
  | load d a r => exact set_W hw mW
  | collect f d r n => exact set_W hw mW
  | _ => exact hw
theorem locs_W {c : CI} {ws ls : List Int} (hw : ∀ x ∈ ws, W x) (hl : ∀ x ∈ ls, W x) : ∀ y ∈ c.locs ws ls, W y := by
  cases c with
  | keep n r => exact set_W hl (getD_W hw r)
  | _ => exact hl
/-! ### code of the law: taken as code, what is behind a lane -/
theorem CI.ok61.ok {many loc : Nat} {c : CI} (h : c.ok61 many loc) : c.ok 5 loc := by
  cases c with
  | word d n => exact ⟨h.1, by have := h.2; simp only [List.mem_cons, List.not_mem_nil, or_false] at this; unfold W; omega⟩
  | param d k => exact ⟨h.1, by have := h.2; omega⟩
  | special d x => exact h
  | copy d r => exact h
  | unary u d r => exact h
  | binary o d r t => exact h
  | load d a r => exact ⟨h.1, h.2.2⟩
  | store a r t => exact h.2
  | atomic f a r t => exact h.2.2
  | barrier n => exact trivial
  | collect f d r n => exact ⟨h.2.1, h.2.2.1⟩
  | get d n => exact h
  | keep n r => exact h
  | jump k => exact trivial
  | branch r k j => exact h.1
  | exit => exact trivial
theorem fold_fine : ∀ f ∈ foldsS, fine (.str f) = true := by decide +kernel
theorem op_fine (o : Op) : fine (.str o.s) = true := by cases o <;> decide +kernel
theorem uop_fine (o : Uop) : fine (.str o.s) = true := by cases o <;> decide +kernel
theorem sp_fine (o : Sp4) : fine (.str o.s) = true := by cases o <;> decide +kernel
theorem fcons {d : PyData} {ds : List PyData} (h : fine d = true) (g : fineAll ds = true) : fineAll (d :: ds) = true := by
  show (fine d && fineAll ds) = true
  rw [h, g]; rfl
theorem fine_ci {many loc : Nat} {c : CI} (h : c.ok61 many loc) : fine c.d = true := by
  show fineAll c.ds = true
  cases c with
  | unary u d r => exact fcons (by decide +kernel) (fcons (uop_fine u) rfl)
  | binary o d r t => exact fcons (by decide +kernel) (fcons (op_fine o) rfl)
  | special d x => exact fcons (by decide +kernel) (fcons (d := .int d) rfl (fcons (sp_fine x) rfl))
  | atomic f a r t => exact fcons (by decide +kernel) (fcons (fold_fine f h.1) rfl)
  | collect f d r n => exact fcons (by decide +kernel) (fcons (fold_fine f h.1) rfl)
  | _ => exact fcons (by decide +kernel) rfl
section
variable {ps ss : List PyData} {loc : Int} {n : Nat}
theorem nI {lo hi k : Int} (h0 : lo ≤ k) (h1 : k ≤ hi) : numIn lo hi (.int k) = true := by
  show (decide (lo ≤ k) && decide (k ≤ hi)) = true
  rw [decide_eq_true h0, decide_eq_true h1]; rfl
theorem cp_common {x : Str} (h1 : ¬ (x = "read" ∨ x = "write")) (h2 : ¬ x = "cell") (h3 : ¬ x = "index") (h4 : ¬ x = "join") (d : PyData) : cpartD ps ss loc n x d = commonD ps ss x d := by
  unfold cpartD
  rw [if_neg h1, if_neg h2, if_neg h3, if_neg h4]
theorem cm_choice {x : Str} (h1 : ¬ x = "word") (h2 : ¬ x = "param") (h3 : ¬ x = "array") (h4 : ¬ x = "number") (d : PyData) : commonD ps ss x d = oneOf (choices x) d := by
  unfold commonD
  rw [if_neg h1, if_neg h2, if_neg h3, if_neg h4]
theorem cp_reg {d : Nat} (h : d < 8) : cpartD ps ss loc n "read" (.int (d : Int)) = true := by
  unfold cpartD
  rw [if_pos (by decide +kernel)]
  exact nI (by omega) (by omega)
theorem cp_wr {d : Nat} (h : d < 8) : cpartD ps ss loc n "write" (.int (d : Int)) = true := by
  unfold cpartD
  rw [if_pos (by decide +kernel)]
  exact nI (by omega) (by omega)
theorem cp_cell {d : Nat} (h : (d : Int) < loc) : cpartD ps ss loc n "cell" (.int (d : Int)) = true := by
  unfold cpartD
  rw [if_neg (by decide +kernel), if_pos rfl]
  exact nI (by omega) (by omega)
theorem cp_index {k : Int} (h0 : 0 ≤ k) (h : k < (n : Int)) : cpartD ps ss loc n "index" (.int k) = true := by
  unfold cpartD
  rw [if_neg (by decide +kernel), if_neg (by decide +kernel), if_pos rfl]
  exact nI (by omega) (by omega)
theorem cp_join {k : Int} (h0 : 0 ≤ k) (h : k ≤ (n : Int)) : cpartD ps ss loc n "join" (.int k) = true := by
  unfold cpartD
  rw [if_neg (by decide +kernel), if_neg (by decide +kernel), if_neg (by decide +kernel), if_pos rfl]
  exact nI (by omega) (by omega)
theorem cp_num {k : Int} (h0 : 0 ≤ k) (h : k ≤ 99) : cpartD ps ss loc n "number" (.int k) = true := by
  rw [cp_common (by decide +kernel) (by decide +kernel) (by decide +kernel) (by decide +kernel)]
  unfold commonD
  rw [if_neg (by decide +kernel), if_neg (by decide +kernel), if_neg (by decide +kernel), if_pos rfl]
  exact nI h0 h
theorem cp_word {k : Int} (h : W k) : cpartD ps ss loc n "word" (.int k) = true := by
  rw [cp_common (by decide +kernel) (by decide +kernel) (by decide +kernel) (by decide +kernel)]
  unfold commonD
  rw [if_pos rfl]
  exact nI h.1 h.2
theorem cp_special (x : Sp4) : cpartD ps ss loc n "special" (.str x.s) = true := by
  rw [cp_common (by decide +kernel) (by decide +kernel) (by decide +kernel) (by decide +kernel), cm_choice (by decide +kernel) (by decide +kernel) (by decide +kernel) (by decide +kernel)]
  cases x <;> decide +kernel
theorem cp_unary (x : Uop) : cpartD ps ss loc n "unary" (.str x.s) = true := by
  rw [cp_common (by decide +kernel) (by decide +kernel) (by decide +kernel) (by decide +kernel), cm_choice (by decide +kernel) (by decide +kernel) (by decide +kernel) (by decide +kernel)]
  cases x <;> decide +kernel
theorem cp_binary (x : Op) : cpartD ps ss loc n "binary" (.str x.s) = true := by
  rw [cp_common (by decide +kernel) (by decide +kernel) (by decide +kernel) (by decide +kernel), cm_choice (by decide +kernel) (by decide +kernel) (by decide +kernel) (by decide +kernel)]
  cases x <;> decide +kernel
theorem cp_folding {f : Str} (h : f ∈ foldsS) : cpartD ps ss loc n "folding" (.str f) = true := by
  rw [cp_common (by decide +kernel) (by decide +kernel) (by decide +kernel) (by decide +kernel), cm_choice (by decide +kernel) (by decide +kernel) (by decide +kernel) (by decide +kernel)]
  exact (by decide +kernel : ∀ f ∈ foldsS, oneOf (choices "folding") (.str f) = true) f h
theorem cp_array {a : Int} (h : a ∈ arrsL) : cpartD PS61 SS61 loc n "array" (.int a) = true := by
  rw [cp_common (by decide +kernel) (by decide +kernel) (by decide +kernel) (by decide +kernel)]
  unfold commonD
  rw [if_neg (by decide +kernel), if_neg (by decide +kernel), if_pos rfl]
  exact (by decide +kernel : ∀ a ∈ arrsL, arrD PS61 SS61 (.int a) = true) a h
theorem cp_param {k : Nat} (h : k = 1 ∨ k = 3 ∨ k = 4) : cpartD PS61 SS61 loc n "param" (.int (k : Int)) = true := by
  rw [cp_common (by decide +kernel) (by decide +kernel) (by decide +kernel) (by decide +kernel)]
  unfold commonD
  rw [if_neg (by decide +kernel), if_pos rfl]
  rcases h with rfl | rfl | rfl <;> decide +kernel
end
theorem pairs_cons {ps ss : List PyData} {loc : Int} {n : Nat} {s : Str} {d : PyData} {so : List Str} {ds : List PyData} (h : cpartD ps ss loc n s d = true) (g : cpairs ps ss loc n so ds = true) : cpairs ps ss loc n (s :: so) (d :: ds) = true := by
  show (cpartD ps ss loc n s d && cpairs ps ss loc n so ds) = true
  rw [h, g]; rfl
theorem ins_of {ps ss : List PyData} {loc : Int} {n : Nat} {x : Str} {ds : List PyData} {so : List Str} (h : look (codeTab ++ insTab) x = some so) (hl : ds.length = so.length) (g : cpairs ps ss loc n so ds = true) : insD ps ss loc n (.tuple (.str x :: ds)) = true := by
  show partsOf _ _ _ = true
  rw [partsOf_some h, decide_eq_true hl, g]; rfl
theorem insD_ok {loc n : Nat} {c : CI} (h : c.ok61 n loc) : insD PS61 SS61 (loc : Int) n c.d = true := by
  cases c with
  | word d k => exact ins_of (so := ["write", "word"]) (by decide +kernel) rfl (pairs_cons (cp_wr h.1) (pairs_cons (cp_word (CI.ok61.ok (c := .word d k) h).2) rfl))
  | param d k => exact ins_of (so := ["write", "param"]) (by decide +kernel) rfl (pairs_cons (cp_wr h.1) (pairs_cons (cp_param h.2) rfl))
  | special d x => exact ins_of (so := ["write", "special"]) (by decide +kernel) rfl (pairs_cons (cp_wr h) (pairs_cons (cp_special x) rfl))
  | copy d r => exact ins_of (so := ["write", "read"]) (by decide +kernel) rfl (pairs_cons (cp_wr h.1) (pairs_cons (cp_reg h.2) rfl))
  | unary u d r => exact ins_of (so := ["unary", "write", "read"]) (by decide +kernel) rfl (pairs_cons (cp_unary u) (pairs_cons (cp_wr h.1) (pairs_cons (cp_reg h.2) rfl)))
  | binary o d r t => exact ins_of (so := ["binary", "write", "read", "read"]) (by decide +kernel) rfl (pairs_cons (cp_binary o) (pairs_cons (cp_wr h.1) (pairs_cons (cp_reg h.2.1) (pairs_cons (cp_reg h.2.2) rfl))))
  | load d a r => exact ins_of (so := ["write", "array", "read"]) (by decide +kernel) rfl (pairs_cons (cp_wr h.1) (pairs_cons (cp_array h.2.1) (pairs_cons (cp_reg h.2.2) rfl)))
  | store a r t => exact ins_of (so := ["array", "read", "read"]) (by decide +kernel) rfl (pairs_cons (cp_array h.1) (pairs_cons (cp_reg h.2.1) (pairs_cons (cp_reg h.2.2) rfl)))
  | atomic f a r t => exact ins_of (so := ["folding", "array", "read", "read"]) (by decide +kernel) rfl (pairs_cons (cp_folding h.1) (pairs_cons (cp_array h.2.1) (pairs_cons (cp_reg h.2.2.1) (pairs_cons (cp_reg h.2.2.2) rfl))))
  | barrier k => exact ins_of (so := ["number"]) (by decide +kernel) rfl (pairs_cons (cp_num h.1 (by have := h.2; omega)) rfl)
  | collect f d r k => exact ins_of (so := ["folding", "write", "read", "number"]) (by decide +kernel) rfl (pairs_cons (cp_folding h.1) (pairs_cons (cp_wr h.2.1) (pairs_cons (cp_reg h.2.2.1) (pairs_cons (cp_num h.2.2.2.1 (by have := h.2.2.2.2; omega)) rfl))))
  | get d k => exact ins_of (so := ["write", "cell"]) (by decide +kernel) rfl (pairs_cons (cp_wr h.1) (pairs_cons (cp_cell (by have := h.2; omega)) rfl))
  | keep k r => exact ins_of (so := ["cell", "read"]) (by decide +kernel) rfl (pairs_cons (cp_cell (by have := h.1; omega)) (pairs_cons (cp_reg h.2) rfl))
  | jump k => exact ins_of (so := ["index"]) (by decide +kernel) rfl (pairs_cons (cp_index h.1 h.2) rfl)
  | branch r k j => exact ins_of (so := ["read", "index", "join"]) (by decide +kernel) rfl (pairs_cons (cp_reg h.1) (pairs_cons (cp_index h.2.1 h.2.2.1) (pairs_cons (cp_join h.2.2.2.1 h.2.2.2.2) rfl)))
  | exit => exact ins_of (so := []) (by decide +kernel) rfl rfl
theorem fineAll_of : ∀ {ds : List PyData}, (∀ d ∈ ds, fine d = true) → fineAll ds = true
  | [], _ => rfl
  | _ :: _, h => fcons (h _ (.head _)) (fineAll_of fun d m => h d (.tail _ m))
theorem Code61.isFine {loc : Nat} {cs : List CI} (C : Code61 loc cs) : fine (codeD (.tuple PS61) (.tuple SS61) loc cs) = true := by
  have h : fineAll (cs.map CI.d) = true := fineAll_of fun d m => by
    obtain ⟨c, mc, rfl⟩ := List.mem_map.mp m
    exact fine_ci (C.ok c mc)
  show fineAll [.tuple PS61, .tuple SS61, .int loc, .tuple (cs.map CI.d)] = true
  exact fcons (by decide +kernel) (fcons (by decide +kernel) (fcons rfl (fcons (d := .tuple (cs.map CI.d)) h rfl)))
theorem Code61.noL {loc : Nat} {cs : List CI} : D8.noL (codeD (.tuple PS61) (.tuple SS61) loc cs) = true := by
  show (true && (true && (true && (noLs (cs.map CI.d) && true)))) = true
  rw [noLs_ci]; rfl
theorem Code61.isCode {loc : Nat} {cs : List CI} (C : Code61 loc cs) : codeP (codeD (.tuple PS61) (.tuple SS61) loc cs) = true := by
  have h1 : headD (.tuple PS61) (.tuple SS61) = true := by decide +kernel
  have h2 : numIn 0 64 (.int (loc : Int)) = true := nI (by omega) (by have := C.loc6; omega)
  have h3 : tupIn 1 2000 (.tuple (cs.map CI.d)) = true := by
    show (decide ((1 : Int) ≤ ((cs.map CI.d).length : Int)) && decide (((cs.map CI.d).length : Int) ≤ 2000)) = true
    have a := C.len
    have b := C.len14
    rw [List.length_map, decide_eq_true (by omega), decide_eq_true (by omega)]; rfl
  have h4 : lastOk (cs.map CI.d) = true := by
    obtain ⟨c, e, hc⟩ := C.last
    have el : (cs.map CI.d).getLastD .none = c.d := by
      rw [List.getLastD_eq_getLast?, List.getLast?_eq_getElem?, List.length_map, List.getElem?_map, e]; rfl
    show decide (firstD ((cs.map CI.d).getLastD .none) = "exit" ∨ firstD ((cs.map CI.d).getLastD .none) = "jump") = true
    rw [el]
    rcases hc with rfl | ⟨k, rfl⟩
    · exact decide_eq_true (.inl rfl)
    · exact decide_eq_true (.inr rfl)
  have h5 : (cs.map CI.d).all (insD PS61 SS61 (loc : Int) (cs.map CI.d).length) = true := by
    rw [List.all_eq_true]
    intro d m
    obtain ⟨c, mc, rfl⟩ := List.mem_map.mp m
    rw [List.length_map]
    exact insD_ok (C.ok c mc)
  show (headD (.tuple PS61) (.tuple SS61) && (numIn 0 64 (.int (loc : Int)) && (tupIn 1 2000 (.tuple (cs.map CI.d)) && (lastOk (cs.map CI.d) && (cs.map CI.d).all (insD PS61 SS61 (loc : Int) (cs.map CI.d).length))))) = true
  rw [h1, h2, h3, h4, h5]; rfl
theorem fold_plain : ∀ f ∈ foldsS, strFine f = true := by decide +kernel
theorem arr_small : ∀ a ∈ arrsL, a.natAbs < 10 ^ 20 := by decide
theorem req_plain61 {loc many : Nat} {c : CI} (h : c.ok61 many loc) {ws : List Int} (hw : ∀ x ∈ ws, W x) : Plain (.tuple (c.req ws)) 100 1 := by
  have wd : ∀ i, Plain (.int (ws.getD i 0)) 0 0 := fun i => .word (getD_W hw i)
  have no : Plain (.tuple [.str "none"]) 100 1 := (PlainAll.tup (.cons (.str (by decide +kernel)) .nil)).mono (by decide) (Nat.le_refl _)
  cases c with
  | load d a r => exact (PlainAll.tup (.cons (.str (by decide +kernel)) (.cons (.int (arr_small _ h.2.1)) (.cons (wd r) .nil)))).mono (by decide) (Nat.le_refl _)
  | store a r t => exact (PlainAll.tup (.cons (.str (by decide +kernel)) (.cons (.int (arr_small _ h.1)) (.cons (wd r) (.cons (wd t) .nil))))).mono (by decide) (Nat.le_refl _)
  | atomic f a r t => exact (PlainAll.tup (.cons (.str (by decide +kernel)) (.cons (.str (fold_plain f h.1)) (.cons (.int (arr_small _ h.2.1)) (.cons (wd r) (.cons (wd t) .nil)))))).mono (by decide) (Nat.le_refl _)
  | barrier n => exact (PlainAll.tup (.cons (.str (by decide +kernel)) (.cons (.int (small20 h.1 (by have := h.2; omega))) .nil))).mono (by decide) (Nat.le_refl _)
  | collect f d r n => exact (PlainAll.tup (.cons (.str (by decide +kernel)) (.cons (.str (fold_plain f h.1)) (.cons (wd r) (.cons (.int (small20 h.2.2.2.1 (by have := h.2.2.2.2; omega))) .nil))))).mono (by decide) (Nat.le_refl _)
  | exit => exact (PlainAll.tup (.cons (.str (by decide +kernel)) .nil)).mono (by decide) (Nat.le_refl _)
  | _ => exact no
/-- a lane of the law -/
structure Lane61 (loc : Nat) (cs : List CI) (at_ : Nat) (ws ls : List Int) : Prop where
  at_ : at_ < cs.length
  l8 : ws.length = 8
  ll : ls.length = loc
  hw : ∀ x ∈ ws, W x
  hl : ∀ x ∈ ls, W x
theorem Lane61.plain {loc : Nat} {cs : List CI} {at_ : Nat} {ws ls : List Int} (h : Lane61 loc cs at_ ws ls) (C : Code61 loc cs) : Plain (laneD at_ ws ls) 300 2 :=
  lane_plain (small20 (by omega) (by have := h.at_; have := C.len14; omega)) (fun y m => W_small (h.hw y m)) (fun y m => W_small (h.hl y m)) (by have := h.l8; omega) (by have := h.ll; have := C.loc6; omega)
theorem Lane61.next {loc : Nat} {cs : List CI} {at_ : Nat} {ws ls : List Int} (h : Lane61 loc cs at_ ws ls) (C : Code61 loc cs) {c : CI} (hc : cs[at_]? = some c) {l : LN} (lok : l.ok 5) {t word : Int} (t0 : 0 ≤ t) (t1 : t < 100) (hword : W word) :
    ∃ (at2 : Nat) (ws2 ls2 : List Int), c.bh l t at_ ws ls word = laneD at2 ws2 ls2 ∧ Lane61 loc cs at2 ws2 ls2 := by
  have mem := List.mem_of_getElem? hc
  have ok61 := C.ok c mem
  have ok : c.ok PS61.length loc := ok61.ok
  have rW := regs_W (ps := PS61) ok lok t0 t1 h.hw h.hl hword
  have lW := locs_W (c := c) h.hw h.hl
  have rl : (c.regs l t ws ls word).length = 8 := by cases c <;> simp only [CI.regs, CI.wr, List.length_set, h.l8]
  have lle : (c.locs ws ls).length = loc := by cases c <;> simp only [CI.locs, List.length_set] <;> exact h.ll
  have go : ∀ at2 : Nat, at2 < cs.length → c.nx at_ (c.regs l t ws ls word) = (at2 : Int) → c ≠ .exit → ∃ (at2 : Nat) (ws2 ls2 : List Int), c.bh l t at_ ws ls word = laneD at2 ws2 ls2 ∧ Lane61 loc cs at2 ws2 ls2 := fun at2 h2 e ne => by
    refine ⟨at2, c.regs l t ws ls word, c.locs ws ls, ?_, h2, rl, lle, rW, lW⟩
    rw [← e]
    cases c <;> first | rfl | exact absurd rfl ne
  have step : c ≠ .exit → (∀ k, c ≠ .jump k) → at_ + 1 < cs.length := fun n1 n2 => by
    have a := h.at_
    by_cases z : at_ = cs.length - 1
    · obtain ⟨c', e, hc'⟩ := C.last
      rw [← z, hc] at e
      cases e
      rcases hc' with rfl | ⟨k, rfl⟩
      · exact absurd rfl n1
      · exact absurd rfl (n2 k)
    · omega
  cases c with
  | exit => exact ⟨at_, ws, ls, rfl, h⟩
  | jump k => exact go k.toNat (by have := ok61.1; have := ok61.2; omega) (by show k = _; have := ok61.1; omega) (fun e => by cases e)
  | branch r k j =>
    by_cases z : ws.getD r 0 = 0
    · exact go (at_ + 1) (step (fun e => by cases e) (fun _ e => by cases e)) (if_pos z) (fun e => by cases e)
    · exact go k.toNat (by have := ok61.2.1; have := ok61.2.2.1; omega) ((if_neg z).trans (by have := ok61.2.1; omega)) (fun e => by cases e)
  | _ => exact go (at_ + 1) (step (fun e => by cases e) (fun _ e => by cases e)) rfl (fun e => by cases e)
theorem code_parts {K : PySem.W.Frag} {H : Hp} {a : Addr} {ps ss : PyData} {loc : Nat} {cs : List CI} (d : Dp K H (.ref a) (codeD ps ss loc cs)) :
    ∃ v1 v2 ka kxs, SqT K H a [v1, v2, .int (loc : Int), .ref ka] ∧ SqT K H ka kxs ∧ DpAll K H kxs (cs.map CI.d) ∧ kxs.length = cs.length := by
  obtain ⟨qa, u1, u2, u3, u4, eqa, sq, e1, e2, e3, e4⟩ := Dp.quad d
  cases eqa
  cases Dp.intInv' e3
  obtain ⟨ka, kxs, rfl, kq, dk⟩ := Dp.tupInv' e4
  exact ⟨u1, u2, ka, kxs, sq, kq, dk, by rw [dk.len, List.length_map]⟩
theorem req_noBool (c : CI) (ws : List Int) : ∀ d ∈ c.req ws, isF d = true ∧ isBool d = false := by
  intro d m
  have h : (c.req ws).all (fun d => isF d && !isBool d) = true := by cases c <;> rfl
  have := List.all_eq_true.mp h d m
  rw [Bool.and_eq_true] at this
  exact ⟨this.1, by simpa using this.2⟩
theorem ints_noBool (xs : List Int) : ∀ d ∈ xs.map PyData.int, isF d = true ∧ isBool d = false := by
  intro d m
  obtain ⟨x, _, rfl⟩ := List.mem_map.mp m
  exact ⟨rfl, rfl⟩
theorem map_fV (xs : List Int) : (xs.map PyData.int).map fV = xs.map V.int := by rw [List.map_map]; rfl
theorem req_len (c : CI) (ws : List Int) : (c.req ws).length ≤ 5 := by cases c <;> exact Nat.le_of_ble_eq_true rfl
theorem rep_any (n : Nat) : (List.replicate n false).any id = false := by
  induction n with
  | zero => rfl
  | succ n ih => rw [List.replicate_succ, List.any_cons, ih]; rfl
set_option maxHeartbeats 4000000 in
theorem ok_law (T : Tx w K mg) : LawRun P w K mg T.a_law T.d_law "script" 63 := by
  intro base s H a ns Q E inB hns en bi hlen hS qq
  refine T.F_law.runAt sc_law (k := 80) (us := [Value.ref a]) (vs := [V.ref a]) ⟨rfl, by decide, by decide⟩ en bi (.cons rfl .nil) rfl (fun cdv hr => ?_)
  refine ⟨_, (pss_cons (ps_set (i := 1) sc_law.nd rfl (.inr rfl) (pe_call (ok_law_stream T) (hr.mono (by decide)) (by rfl) T.g_law_stream T.F_law_stream.kp T.b_law_stream .nil pass0 (pa_cons (pv 0) pa_nil)))
      (pss_cons (ps_set (i := 2) sc_law.nd rfl (.inl rfl) (pe_call (ok_law_code T) (hr.mono (by decide)) (by rfl) T.g_law_code T.F_law_code.kp T.b_law_code .nil pass0 (pa_cons (pv 1) pa_nil)))
      (pss_cons (ps_set (i := 3) sc_law.nd rfl (.inl rfl) (pe_call (ok_law_started T) (hr.mono (by decide)) (by rfl) T.g_law_started T.F_law_started.kp T.b_law_started .nil pass0 (pa_cons (pv 1) pa_nil)))
      (pss_cons (ps_if (PW.pt (pw_or (pt_cmpR op_notN (pe_call (ok_check_code T) (hr.mono (by decide)) (by rfl) T.g_check_code T.F_check_code.kp T.b_check_code .nil passX (pa_cons (pv 2) pa_nil)) pe_non (nomark _)) (pw_or1 (pt_cmpR (op_neD hr.units) (pe_call (ok_first_lane T) (hr.mono (by decide)) (by rfl) T.g_first_lane T.F_first_lane.kp T.b_first_lane .nil pass0 (pa_cons (pv 2) pa_nil)) (pe_call (ok_law_first T) (hr.mono (by decide)) (by rfl) T.g_law_first T.F_law_first.kp T.b_law_first .nil pass0 (pa_cons (pv 2) pa_nil)) (nomark _))))) (pss_one (ps_ret pe_bl)) pss_nil)
      (pss_cons (ps_set (i := 5) sc_law.nd rfl (.inl rfl) (pe_tup (pa_cons (pe_call (ok_law_draw T) (hr.mono (by decide)) (by rfl) T.g_law_draw T.F_law_draw.kp T.b_law_draw .nil pass0 (pa_cons (pv 1) (pa_cons (pe_callB call_len_seq (by rfl) T.z_len (by decide +kernel) (pa_cons (pe_ix ix_tup (pv 2) pe_int (fun _ _ => rfl)) pa_nil)) pa_nil))) (pa_cons (pe_callTy call_tuple_of (by rfl) T.z_tuple (by decide +kernel) (pa_cons (pe_lc (own := [("k", 4)]) (g := gName 4) (tt := tYes) rfl sc_law.nd (pi_range1 (by rfl) T.z_range (pa_cons pe_int pa_nil)) (blkOk_by (N := ["script", "stream", "code", "launch", "k", "lane", "thread", "word", "due", "actual", "part"]) (sc := defScope s_law) (by decide +kernel)) (fun _ _ _ _ _ => (pg_name (i := 4) sc_law.nd rfl (.inl rfl))) (fun _ _ _ _ _ => pts_nil) (fun _ _ _ _ _ => (pe_call (ok_law_word T) (hr.mono (by decide)) (by rfl) T.g_law_word T.F_law_word.kp T.b_law_word .nil pass0 (pa_cons (pv 1) pa_nil)))) pa_nil)) (pa_cons (pe_callTy call_tuple_of (by rfl) T.z_tuple (by decide +kernel) (pa_cons (pe_lc (own := [("k", 4)]) (g := gName 4) (tt := tYes) rfl sc_law.nd (pi_range1 (by rfl) T.z_range (pa_cons (pe_ix ix_tup (pv 2) pe_int (fun _ _ => rfl)) pa_nil)) (blkOk_by (N := ["script", "stream", "code", "launch", "k", "lane", "thread", "word", "due", "actual", "part"]) (sc := defScope s_law) (by decide +kernel)) (fun _ _ _ _ _ => (pg_name (i := 4) sc_law.nd rfl (.inl rfl))) (fun _ _ _ _ _ => pts_nil) (fun _ _ _ _ _ => (pe_call (ok_law_word T) (hr.mono (by decide)) (by rfl) T.g_law_word T.F_law_word.kp T.b_law_word .nil pass0 (pa_cons (pv 1) pa_nil)))) pa_nil)) pa_nil)))))
      (pss_cons (ps_set (i := 6) sc_law.nd rfl (.inl rfl) (pe_call (ok_law_draw T) (hr.mono (by decide)) (by rfl) T.g_law_draw T.F_law_draw.kp T.b_law_draw .nil pass0 (pa_cons (pv 1) (pa_cons (pe_op op_mul (pe_ix ix_tup (pv 3) pe_int (fun _ _ => rfl)) (pe_ix ix_tup (pv 3) pe_int (fun _ _ => rfl))) pa_nil))))
      (pss_cons (ps_for PassesOwn.never rfl (pi_range1 (by rfl) T.z_range (pa_cons pe_int pa_nil)) (pg_name (i := 4) sc_law.nd rfl (.inl rfl)) (pss_cons (ps_if (pt_cmpR (op_neD hr.units) (pe_call (ok_request T) (hr.mono (by decide)) (by rfl) T.g_request T.F_request.kp T.b_request .nil pass0 (pa_cons (pv 2) (pa_cons (pv 5) pa_nil))) (pe_call (ok_law_request T) (hr.mono (by decide)) (by rfl) T.g_law_request T.F_law_request.kp T.b_law_request .nil pass0 (pa_cons (pv 2) (pa_cons (pv 5) pa_nil))) (nomark _)) (pss_one (ps_ret pe_bl)) pss_nil)
      (pss_cons (ps_set (i := 7) sc_law.nd rfl (.inl rfl) (pe_call (ok_law_word T) (hr.mono (by decide)) (by rfl) T.g_law_word T.F_law_word.kp T.b_law_word .nil pass0 (pa_cons (pv 1) pa_nil)))
      (pss_cons (ps_set (i := 8) sc_law.nd rfl (.inl rfl) (pe_call (ok_law_behind T) (hr.mono (by decide)) (by rfl) T.g_law_behind T.F_law_behind.kp T.b_law_behind .nil pass0 (pa_cons (pv 2) (pa_cons (pv 3) (pa_cons (pv 6) (pa_cons (pv 5) (pa_cons (pv 7) pa_nil)))))))
      (pss_cons (ps_set (i := 9) sc_law.nd rfl (.inl rfl) (pe_call (ok_behind T) (hr.mono (by decide)) (by rfl) T.g_behind T.F_behind.kp T.b_behind .nil pass0 (pa_cons (pv 2) (pa_cons (pv 3) (pa_cons (pv 6) (pa_cons (pv 5) (pa_cons (pv 7) pa_nil)))))))
      (pss_cons (ps_if (PW.pt (pw_or (pt_not (pt_val (pe_callB call_isi (by rfl) T.z_isinstance (by decide +kernel) (pa_cons (pv 9) (pa_cons (pe_bltn (v := .ty "tuple") (u := .type "tuple") (by rfl) T.z_tuple (by decide +kernel) rfl) pa_nil))))) (pw_or1 (pt_cmpR (op_neD hr.units) (pv 9) (pv 8) (nomark _))))) (pss_one (ps_ret pe_bl)) pss_nil)
      (pss_cons (ps_if (pt_val (pe_callB (cr_any rfl) (by rfl) T.z_any (by decide +kernel) (pa_cons (pe_lc (own := [("part", 10)]) (g := gName 10) (tt := tYes) rfl sc_law.nd (pi_tup (pe_op op_catA (pe_op op_catA (pe_op op_catA (pe_slice sl_tup (pv 9) po_none (po_some pe_int)) (pe_ix ix_tup (pv 9) pe_int (fun _ _ => rfl))) (pe_ix ix_tup (pv 9) pe_int (fun _ _ => rfl))) (pe_call (ok_request T) (hr.mono (by decide)) (by rfl) T.g_request T.F_request.kp T.b_request .nil pass0 (pa_cons (pv 2) (pa_cons (pv 5) pa_nil))))) (blkOk_by (N := ["script", "stream", "code", "launch", "k", "lane", "thread", "word", "due", "actual", "part"]) (sc := defScope s_law) (by decide +kernel)) (fun _ _ _ _ _ => (pg_name (i := 10) sc_law.nd rfl (.inl rfl))) (fun _ _ _ _ _ => pts_nil) (fun _ _ _ _ _ => (pe_callB (show CallR _ (Value.builtin "isinstance") (rIsi K) from call_isi) (by rfl) T.z_isinstance (by decide +kernel) (pa_cons (pv 10) (pa_cons (pe_bltn (v := .ty "bool") (u := .type "bool") (by rfl) T.z_bool (by decide +kernel) rfl) pa_nil))))) pa_nil))) (pss_one (ps_ret pe_bl)) pss_nil)
      (pss_one (ps_set (i := 5) sc_law.nd rfl (.inl rfl) (pv 8))))))))))
      (pss_one (ps_ret pe_bl))))))))), ?_⟩
  refine ⟨_, rfl, a, ns, rfl, hS, hlen, fun H1 p q s1 np nq S1 => ?_⟩
  refine ⟨_, rfl, p, q, rfl, S1, fun cv H2 loc cs C sg2 dc => ?_⟩
  obtain ⟨ca, cxs, rfl, _, _⟩ := Dp.tupInv' dc
  refine ⟨_, rfl, p, q, rfl, sg2.str, fun lv H3 l lok lno sg3 dl => ?_⟩
  have dc3 := Dp.tk (sg3.tk sg2.str) Code61.noL dc
  have S3 := sg3.str
  clear sg2 sg3 dc
  have l6 := C.loc6
  have c14 := C.len14
  have c1 := C.len
  refine ⟨_, rfl, .ref ca, _, rfl, dc3, C.isFine, (fun _ H4 s4 => ?_), (fun z => by rw [C.isCode] at z; cases z)⟩
  refine ⟨rfl, _, rfl, iteN rfl ?_⟩
  have pl0 : Plain (laneD 0 (List.replicate 8 0) (List.replicate loc 0)) 300 2 := lane_plain (by decide) (fun y m => by rw [(List.mem_replicate.mp m).2]; decide) (fun y m => by rw [(List.mem_replicate.mp m).2]; decide) (by simp) (by simp; omega)
  refine ⟨_, rfl, .ref ca, _, _, loc, cs, rfl, dc3.same s4, by omega, fun r1 H5 s5 d5 => ?_⟩
  refine ⟨_, rfl, .ref ca, _, _, loc, cs, rfl, dc3.same (s4.trans s5), by omega, fun r2 H6 s6 d6 => ?_⟩
  refine ⟨_, _, d5.same s6, d6, pl0.shaped (by decide), pl0.shaped (by decide), _, rfl, iteN (congrArg (! ·) (pl0.eqv (by decide))) ?_⟩
  have s36 := (s4.trans s5).trans s6
  have tk6 : Tk H3 H6 := Same.tk s36
  have S6 := S3.same s36
  clear s4 s5 s6 s36 d5 d6 pl0
  have dc6 := Dp.tk tk6 Code61.noL dc3
  obtain ⟨v1, v2, ka, kxs, sq6, kq6, dk6, kl⟩ := code_parts dc6
  -- the first lane
  refine ⟨_, rfl, _, rfl, _, _, _, _, rfl, rfl, sq6, rfl, ka, kxs, rfl, .inr kq6, p, q, _, rfl, S6, by omega, by omega, fun u Ha u0 u1 b sS => ?_⟩
  rw [kl] at u1
  obtain ⟨at0, rfl, at1⟩ : ∃ x : Nat, (x : Int) = u ∧ x < cs.length := ⟨u.toNat, by omega, by omega⟩
  have tka := tk6.trans (Tk.but S6 b)
  have Sa : Sg q p Ha Ha := ⟨.refl, sS⟩
  clear u0 u1 b S6 sq6 kq6 dk6 dc6 sS
  refine ⟨_, rfl, by decide, by decide, fun D1 nD1 => ?_⟩
  refine lc_range (n := 8) (fun j H' => ∃ us : List Int, us.length = j ∧ (∀ x ∈ us, W x) ∧ Lw Ha q p D1 (us.map V.int) H')
    ⟨[], rfl, (fun x m => by cases m), Lw.begin Sa nD1⟩ ?_ ?_
  · rintro j Hb hj ⟨us, ul, hu, L⟩
    refine ⟨rfl, _, rfl, p, q, rfl, L.sg.str, fun u Hc hW b s => ?_⟩
    replace L := L.draw b s
    refine ⟨us.map V.int, L.row, by rw [List.length_map, sizeLine_eq]; omega, us ++ [u], by rw [List.length_append, ul]; rfl, fun x hx => ?_, ?_⟩
    · rcases List.mem_append.mp hx with hx | hx
      · exact hu x hx
      · rw [List.mem_singleton.mp hx]; exact hW
    · have L2 := L.snoc (.int u)
      rw [List.map_append]
      exact L2
  rintro Hb ⟨ws, l8, hw, L⟩
  refine ⟨D1, _, rfl, .inl ⟨SqL.of L.row, fun t1 n1 => ?_⟩⟩
  have Sb := L.sg.new (o := .tup (ws.map V.int)) n1
  have gw : SqT K (L2.upd Hb t1 (.tup (ws.map V.int))) t1 (ws.map V.int) := sqT_laid
  generalize L2.upd Hb t1 (.tup (ws.map V.int)) = Hc at Sb gw ⊢
  have tkc := tka.trans (Tk.but Sa.str Sb.but)
  clear L n1 nD1
  -- the cells
  have dcc := Dp.tk tkc Code61.noL dc3
  obtain ⟨v1', v2', ka', kxs', sqc, _, _, _⟩ := code_parts dcc
  refine ⟨_, rfl, _, _, _, _, rfl, rfl, sqc, rfl, _, rfl, by omega, by omega, fun D2 nD2 => ?_⟩
  have Sc : Sg q p Hc Hc := ⟨.refl, Sb.str⟩
  refine lc_range (n := loc) (fun j H' => ∃ us : List Int, us.length = j ∧ (∀ x ∈ us, W x) ∧ Lw Hc q p D2 (us.map V.int) H')
    ⟨[], rfl, (fun x m => by cases m), Lw.begin Sc nD2⟩ ?_ ?_
  · rintro j Hd hj ⟨us, ul, hu, L⟩
    refine ⟨rfl, _, rfl, p, q, rfl, L.sg.str, fun u He hW b s => ?_⟩
    replace L := L.draw b s
    refine ⟨us.map V.int, L.row, by rw [List.length_map, sizeLine_eq]; omega, us ++ [u], by rw [List.length_append, ul]; rfl, fun x hx => ?_, ?_⟩
    · rcases List.mem_append.mp hx with hx | hx
      · exact hu x hx
      · rw [List.mem_singleton.mp hx]; exact hW
    · have L2 := L.snoc (.int u)
      rw [List.map_append]
      exact L2
  rintro Hd ⟨ls, ll, hl, L⟩
  refine ⟨D2, _, rfl, .inl ⟨SqL.of L.row, fun t2 n2 => ?_⟩⟩
  have Sd := L.sg.new (o := .tup (ls.map V.int)) n2
  have gl : SqT K (L2.upd Hd t2 (.tup (ls.map V.int))) t2 (ls.map V.int) := sqT_laid
  generalize L2.upd Hd t2 (.tup (ls.map V.int)) = He at Sd gl ⊢
  replace gw := SqT.tk (Tk.but Sc.str Sd.but) gw
  have tke := tkc.trans (Tk.but Sc.str Sd.but)
  clear L n2 nD2 Sc sqc dcc
  refine ⟨by walk_at "size", fun t3 n3 => ?_⟩
  have s3 := same_new5 (o := .tup [.int (at0 : Int), .ref t1, .ref t2]) n3
  have da : Dp K (L2.upd He t3 (.tup [.int (at0 : Int), .ref t1, .ref t2])) (.ref t3) (laneD at0 ws ls) := Dp.lay3 n3 (.int _) (Dp.ofInts gw) (Dp.ofInts gl)
  have tkf := tke.trans (Same.tk s3)
  have Sf := Sd.str.same s3
  generalize L2.upd He t3 (.tup [.int (at0 : Int), .ref t1, .ref t2]) = Hf at da tkf Sf ⊢
  have La : Lane61 loc cs at0 ws ls := ⟨at1, l8, ll, hw, hl⟩
  clear s3 n3 gw gl tke tkc tka Sa Sb Sd at1 l8 ll hw hl
  -- the thread
  have dlf := Dp.tk tkf lno dl
  obtain ⟨la, x1, x2, x3, x4, rfl, sql, f1, f2, f3, f4⟩ := Dp.quad dlf
  cases Dp.intInv' f1
  cases Dp.intInv' f2
  obtain ⟨g1, g4, d1, d8, al, aw⟩ := id lok
  have gd : 1 ≤ l.grid * l.dim ∧ l.grid * l.dim ≤ 32 := by
    have : l.grid = 1 ∨ l.grid = 2 ∨ l.grid = 3 ∨ l.grid = 4 := by omega
    rcases this with e | e | e | e <;> rw [e] <;> omega
  refine ⟨_, rfl, _, rfl, _, _, _, _, rfl, rfl, sql, rfl, _, rfl, _, _, _, _, rfl, rfl, sql, rfl, _, _, rfl, rfl, .inl ⟨by omega, by omega⟩, ?_⟩
  refine ⟨p, q, _, rfl, Sf, by show 0 < l.grid * l.dim; omega, by show l.grid * l.dim < _; omega, fun th Hg th0 th1 b Sg' => ?_⟩
  have th8 : th < 100 := Int.lt_of_lt_of_le th1 (by show l.grid * l.dim ≤ 100; omega)
  have dag := Dp.tk (Tk.but Sf b) (by show (true && (noLs (ws.map PyData.int) && (noLs (ls.map PyData.int) && true))) = true; rw [noLs_ints, noLs_ints]; rfl) da
  have tkg := tkf.trans (Tk.but Sf b)
  clear b Sf da tkf sql f1 f2 f3 f4 dlf th1 gd
  refine ⟨_, rfl, by decide, by decide, ?_⟩
  refine for_range (n := 6) (fun i σ H' => ∃ (y4 y7 y8 y9 : Option V) (lav : V) (at_ : Nat) (ws ls : List Int), σ = [some (.ref a), some (.ref p), some (.ref ca), some (.ref la), y4, some lav, some (.int th), y7, y8, y9, none] ∧ Lane61 loc cs at_ ws ls ∧ Dp K H' lav (laneD at_ ws ls) ∧ Tk H3 H' ∧ Strm q H' p)
    ⟨_, _, _, _, _, at0, ws, ls, rfl, La, dag, tkg, Sg'⟩ ?_ ?_
  · clear La dag tkg Sg'
    rintro i σ Hh hi ⟨y4, y7, y8, y9, lav, at_, ws, ls, rfl, La, da, tkh, Sh⟩
    have dch := Dp.tk tkh Code61.noL dc3
    have dlh := Dp.tk tkh lno dl
    obtain ⟨c, hc⟩ : ∃ c, cs[at_]? = some c := ⟨cs[at_]'La.at_, List.getElem?_eq_getElem La.at_⟩
    have ok61 := C.ok c (List.mem_of_getElem? hc)
    have cok := ok61.ok
    have plr := req_plain61 ok61 La.hw
    -- what the lane asks
    refine ⟨_, rfl, _, rfl, .ref ca, lav, _, _, loc, 5, cs, at_, ws, ls, c, rfl, dch, da, hc, La.l8, cok, fun r1 Hi s1 e1 => ?_⟩
    refine ⟨_, rfl, _, rfl, .ref ca, lav, _, _, loc, 5, cs, at_, ws, ls, c, rfl, dch.same s1, da.same s1, hc, La.l8, cok, fun r2 Hj s2 e2 => ?_⟩
    refine ⟨_, _, e1.same s2, e2, plr.shaped (by decide), plr.shaped (by decide), _, rfl, iteN (congrArg (! ·) (plr.eqv (by decide))) ?_⟩
    have s12 := s1.trans s2
    refine ⟨_, rfl, p, q, rfl, Sh.same s12, fun word Hk hW b s => ?_⟩
    have tk := (Same.tk s12).trans (Tk.but (Sh.same s12) b)
    have tkk := tkh.trans tk
    have dck := Dp.tk tk Code61.noL dch
    have dlk := Dp.tk tk lno dlh
    have dak := Dp.tk tk (by show (true && (noLs (ws.map PyData.int) && (noLs (ls.map PyData.int) && true))) = true; rw [noLs_ints, noLs_ints]; rfl) da
    clear s1 s2 e1 e2 s12 tk b dch dlh da Sh tkh plr
    obtain ⟨at2, ws2, ls2, eB, L2'⟩ := La.next C hc lok th0 th8 hW
    refine ⟨_, rfl, _, rfl, _, rfl, _, rfl, _, rfl, .ref ca, .ref la, lav, th, word, _, _, loc, 5, cs, at_, ws, ls, c, l, rfl, dck, dak, hc, La.l8, La.ll, by omega, La.hw, cok, dlk, lok, th0, th8, fun r3 Hl s3 e3 => ?_⟩
    refine ⟨_, rfl, _, rfl, _, rfl, _, rfl, _, rfl, .ref ca, .ref la, lav, th, word, _, _, loc, 5, cs, at_, ws, ls, c, l, rfl, dck.same s3, dak.same s3, hc, La.l8, La.ll, by omega, La.hw, cok, dlk.same s3, lok, th0, th8, fun r4 Hm s4 e4 => ?_⟩
    rw [eB] at e3 e4
    have pl := L2'.plain C
    refine ⟨_, rfl, _, _, _, _, _, rfl, .ty "tuple", e4.tyx, kit_tup _, _, rfl, iteN rfl ?_⟩
    refine ⟨_, rfl, _, rfl, _, _, e4, e3.same s4, pl.shaped (by decide), pl.shaped (by decide), _, rfl, iteN (congrArg (! ·) (pl.eqv (by decide))) ?_⟩
    -- no bool in it
    obtain ⟨xa, w1, w2, w3, rfl, sx, g1', g2', g3'⟩ := Dp.tri e4
    cases Dp.intInv' g1'
    obtain ⟨rw2, rfl, sw2⟩ := Dp.intsT g2'
    obtain ⟨rl2, rfl, sl2⟩ := Dp.intsT g3'
    refine ⟨_, rfl, 1, rfl, xa, _, rfl, sx, by show ¬ (HT.sIx 3 0 none = 0 ∧ HT.sIx 3 3 (some 1) = 3); decide, fun r5 n5 => ?_⟩
    have c5 : cutV [V.int (at2 : Int), .ref rw2, .ref rl2] none (some 1) = [V.int (at2 : Int)] := rfl
    rw [c5]
    have s5 := same_new5 (o := .tup [V.int (at2 : Int)]) n5
    have h5 : SqT K (L2.upd Hm r5 (.tup [V.int (at2 : Int)])) r5 ([PyData.int (at2 : Int)].map fV) := sqT_laid
    generalize L2.upd Hm r5 (.tup [V.int (at2 : Int)]) = Hn at s5 h5 ⊢
    have w2l := L2'.l8
    have l2l := L2'.ll
    have rq := req_len c ws
    refine ⟨_, rfl, _, _, _, _, rfl, rfl, Same.sqt s5 sx, rfl, ?_⟩
    refine catA_sq h5 (Same.sqt s5 sw2) (Nat.le_of_lt (small1000 (by simp only [List.length_map, List.length_singleton]; omega))) fun r6 Ho s6 h6 => ?_
    rw [← map_fV, ← List.map_append] at h6
    refine ⟨_, rfl, _, _, _, _, rfl, rfl, Same.sqt (s5.trans s6) sx, rfl, ?_⟩
    refine catA_sq h6 (Same.sqt (s5.trans s6) sl2) (Nat.le_of_lt (small1000 (by simp only [List.length_append, List.length_map, List.length_singleton]; omega))) fun r7 Hp' s7 h7 => ?_
    rw [← map_fV, ← List.map_append] at h7
    have s37 := ((s3.trans s4).trans s5).trans (s6.trans s7)
    refine ⟨_, rfl, _, rfl, .ref ca, lav, _, _, loc, 5, cs, at_, ws, ls, c, rfl, dck.same s37, dak.same s37, hc, La.l8, cok, fun r8 Hq s8 e8 => ?_⟩
    obtain ⟨q8, rfl, h8⟩ := Dp.flat e8 (c.reqFlat ws)
    refine catA_sq (Same.sqt s8 h7) h8 (Nat.le_of_lt (small1000 (by simp only [List.length_append, List.length_map, List.length_singleton]; omega))) fun r9 Hr' s9 h9 => ?_
    rw [← List.map_append] at h9
    have s39 := (s37.trans s8).trans s9
    generalize hds : [PyData.int (at2 : Int)] ++ ws2.map PyData.int ++ ls2.map PyData.int ++ c.req ws = ds at h9
    have dno : ∀ d ∈ ds, isF d = true ∧ isBool d = false := by
      intro d m
      rw [← hds] at m
      rcases List.mem_append.mp m with m | m
      · rcases List.mem_append.mp m with m | m
        · rcases List.mem_append.mp m with m | m
          · rw [List.mem_singleton.mp m]; exact ⟨rfl, rfl⟩
          · exact ints_noBool _ d m
        · exact ints_noBool _ d m
      · exact req_noBool c ws d m
    have dl30 : ds.length ≤ 40 := by
      rw [← hds]
      simp only [List.length_append, List.length_map, List.length_singleton]
      omega
    clear hds h8 h7 h6 h5
    refine ⟨r9, rfl, ⟨_, h9⟩, fun D nD => ?_⟩
    refine lc_tup (K := K) (a := r9) (xs := ds.map fV) (fun i H' => H' D = some (.lst ((List.replicate i false).map V.bl)) ∧ Same Hr' H') ⟨upd_same, same_new5 nD⟩ (fun i H' _ ⟨_, e⟩ => Same.sqt e h9) ?_ ?_
    · rintro i x Hs hx ⟨eD, sm⟩
      rw [List.getElem?_map] at hx
      obtain ⟨d, hd, rfl⟩ := Option.map_eq_some_iff.mp hx
      obtain ⟨f1, f2⟩ := dno d (List.mem_of_getElem? hd)
      have i40 : i < ds.length := (List.getElem?_eq_some_iff.mp hd).1
      have dp : Dp K Hs (fV d) d := by
        cases d with
        | none => exact .non
        | bool b => exact .bl b
        | int i => exact .int i
        | str s => exact .str s
        | _ => cases f1
      refine ⟨rfl, _, rfl, _, _, _, _, _, rfl, .ty "bool", dp.tyx, kit_bool d, _, eD, ?_, ?_, fun b o e => ?_⟩
      · rw [List.length_map, List.length_replicate, sizeLine_eq]; omega
      · rw [upd_same, f2, ← List.replicate_append_replicate (n := i) (m := 1), List.map_append]; rfl
      · rw [upd_ne (ne_of_none e nD)]; exact sm _ _ e
    · rintro Hs ⟨eD, sm⟩
      refine ⟨D, List.replicate (ds.map fV).length false, rfl, SqL.of eD, _, rfl, iteN (rep_any _) ?_⟩
      refine ⟨_, rfl, ?_⟩
      exact ⟨_, _, _, _, _, at2, ws2, ls2, rfl, L2', (e3.same s4).same (((s5.trans (s6.trans s7)).trans (s8.trans s9)).trans sm), tkk.trans (Same.tk (s39.trans sm)), s.same (s39.trans sm)⟩
  · rintro σ Hh ⟨y4, y7, y8, y9, lav, at_, ws, ls, rfl, La, da, tkh, Sh⟩
    exact qq _

end
/-! ### what the top has written, the end -/
theorem all_mk {l : PySem.W.OpenLaw} {w : World} {K : PySem.W.Frag} {h : Heap} {mg : Str → Option Value} {fa : Addr} (X : K.In h) (G : h.Ns mainGlobals mg) (hfa : mg "law" = some (.ref fa))
    {fis_between : Addr} {odis_between anis_between : Option Addr} {slis_between : Array (Option Value)} {ocis_between kVis_between dcis_between pmis_between cdis_between ctis_between : Value}
    {fis_word : Addr} {odis_word anis_word : Option Addr} {slis_word : Array (Option Value)} {ocis_word kVis_word dcis_word pmis_word cdis_word ctis_word : Value}
    {fwrapped : Addr} {odwrapped anwrapped : Option Addr} {slwrapped : Array (Option Value)} {ocwrapped kVwrapped dcwrapped pmwrapped cdwrapped ctwrapped : Value}
    {fsum_of : Addr} {odsum_of ansum_of : Option Addr} {slsum_of : Array (Option Value)} {ocsum_of kVsum_of dcsum_of pmsum_of cdsum_of ctsum_of : Value}
    {fdifference : Addr} {oddifference andifference : Option Addr} {sldifference : Array (Option Value)} {ocdifference kVdifference dcdifference pmdifference cddifference ctdifference : Value}
    {fproduct_of : Addr} {odproduct_of anproduct_of : Option Addr} {slproduct_of : Array (Option Value)} {ocproduct_of kVproduct_of dcproduct_of pmproduct_of cdproduct_of ctproduct_of : Value}
    {fquotient : Addr} {odquotient anquotient : Option Addr} {slquotient : Array (Option Value)} {ocquotient kVquotient dcquotient pmquotient cdquotient ctquotient : Value}
    {fremainder : Addr} {odremainder anremainder : Option Addr} {slremainder : Array (Option Value)} {ocremainder kVremainder dcremainder pmremainder cdremainder ctremainder : Value}
    {fbits_of_both : Addr} {odbits_of_both anbits_of_both : Option Addr} {slbits_of_both : Array (Option Value)} {ocbits_of_both kVbits_of_both dcbits_of_both pmbits_of_both cdbits_of_both ctbits_of_both : Value}
    {fbits_of_any : Addr} {odbits_of_any anbits_of_any : Option Addr} {slbits_of_any : Array (Option Value)} {ocbits_of_any kVbits_of_any dcbits_of_any pmbits_of_any cdbits_of_any ctbits_of_any : Value}
    {fbits_of_one : Addr} {odbits_of_one anbits_of_one : Option Addr} {slbits_of_one : Array (Option Value)} {ocbits_of_one kVbits_of_one dcbits_of_one pmbits_of_one cdbits_of_one ctbits_of_one : Value}
    {fshifted_left : Addr} {odshifted_left anshifted_left : Option Addr} {slshifted_left : Array (Option Value)} {ocshifted_left kVshifted_left dcshifted_left pmshifted_left cdshifted_left ctshifted_left : Value}
    {fshifted_right : Addr} {odshifted_right anshifted_right : Option Addr} {slshifted_right : Array (Option Value)} {ocshifted_right kVshifted_right dcshifted_right pmshifted_right cdshifted_right ctshifted_right : Value}
    {fis_less : Addr} {odis_less anis_less : Option Addr} {slis_less : Array (Option Value)} {ocis_less kVis_less dcis_less pmis_less cdis_less ctis_less : Value}
    {fis_at_most : Addr} {odis_at_most anis_at_most : Option Addr} {slis_at_most : Array (Option Value)} {ocis_at_most kVis_at_most dcis_at_most pmis_at_most cdis_at_most ctis_at_most : Value}
    {fis_equal : Addr} {odis_equal anis_equal : Option Addr} {slis_equal : Array (Option Value)} {ocis_equal kVis_equal dcis_equal pmis_equal cdis_equal ctis_equal : Value}
    {fis_other : Addr} {odis_other anis_other : Option Addr} {slis_other : Array (Option Value)} {ocis_other kVis_other dcis_other pmis_other cdis_other ctis_other : Value}
    {flesser : Addr} {odlesser anlesser : Option Addr} {sllesser : Array (Option Value)} {oclesser kVlesser dclesser pmlesser cdlesser ctlesser : Value}
    {fgreater : Addr} {odgreater angreater : Option Addr} {slgreater : Array (Option Value)} {ocgreater kVgreater dcgreater pmgreater cdgreater ctgreater : Value}
    {fnegative : Addr} {odnegative annegative : Option Addr} {slnegative : Array (Option Value)} {ocnegative kVnegative dcnegative pmnegative cdnegative ctnegative : Value}
    {fturned_bits : Addr} {odturned_bits anturned_bits : Option Addr} {slturned_bits : Array (Option Value)} {octurned_bits kVturned_bits dcturned_bits pmturned_bits cdturned_bits ctturned_bits : Value}
    {fis_zero : Addr} {odis_zero anis_zero : Option Addr} {slis_zero : Array (Option Value)} {ocis_zero kVis_zero dcis_zero pmis_zero cdis_zero ctis_zero : Value}
    {fbinary : Addr} {odbinary anbinary : Option Addr} {slbinary : Array (Option Value)} {ocbinary kVbinary dcbinary pmbinary cdbinary ctbinary : Value}
    {funary : Addr} {odunary anunary : Option Addr} {slunary : Array (Option Value)} {ocunary kVunary dcunary pmunary cdunary ctunary : Value}
    {fspecial : Addr} {odspecial anspecial : Option Addr} {slspecial : Array (Option Value)} {ocspecial kVspecial dcspecial pmspecial cdspecial ctspecial : Value}
    {fasked_by : Addr} {odasked_by anasked_by : Option Addr} {slasked_by : Array (Option Value)} {ocasked_by kVasked_by dcasked_by pmasked_by cdasked_by ctasked_by : Value}
    {fmade_by : Addr} {odmade_by anmade_by : Option Addr} {slmade_by : Array (Option Value)} {ocmade_by kVmade_by dcmade_by pmmade_by cdmade_by ctmade_by : Value}
    {fwritten : Addr} {odwritten anwritten : Option Addr} {slwritten : Array (Option Value)} {ocwritten kVwritten dcwritten pmwritten cdwritten ctwritten : Value}
    {ffirst_lane : Addr} {odfirst_lane anfirst_lane : Option Addr} {slfirst_lane : Array (Option Value)} {ocfirst_lane kVfirst_lane dcfirst_lane pmfirst_lane cdfirst_lane ctfirst_lane : Value}
    {frequest : Addr} {odrequest anrequest : Option Addr} {slrequest : Array (Option Value)} {ocrequest kVrequest dcrequest pmrequest cdrequest ctrequest : Value}
    {fwith_word : Addr} {odwith_word anwith_word : Option Addr} {slwith_word : Array (Option Value)} {ocwith_word kVwith_word dcwith_word pmwith_word cdwith_word ctwith_word : Value}
    {fnext_index : Addr} {odnext_index annext_index : Option Addr} {slnext_index : Array (Option Value)} {ocnext_index kVnext_index dcnext_index pmnext_index cdnext_index ctnext_index : Value}
    {fbehind : Addr} {odbehind anbehind : Option Addr} {slbehind : Array (Option Value)} {ocbehind kVbehind dcbehind pmbehind cdbehind ctbehind : Value}
    {fis_tuple : Addr} {odis_tuple anis_tuple : Option Addr} {slis_tuple : Array (Option Value)} {ocis_tuple kVis_tuple dcis_tuple pmis_tuple cdis_tuple ctis_tuple : Value}
    {fis_name : Addr} {odis_name anis_name : Option Addr} {slis_name : Array (Option Value)} {ocis_name kVis_name dcis_name pmis_name cdis_name ctis_name : Value}
    {fis_param : Addr} {odis_param anis_param : Option Addr} {slis_param : Array (Option Value)} {ocis_param kVis_param dcis_param pmis_param cdis_param ctis_param : Value}
    {fis_shared_array : Addr} {odis_shared_array anis_shared_array : Option Addr} {slis_shared_array : Array (Option Value)} {ocis_shared_array kVis_shared_array dcis_shared_array pmis_shared_array cdis_shared_array ctis_shared_array : Value}
    {fis_head : Addr} {odis_head anis_head : Option Addr} {slis_head : Array (Option Value)} {ocis_head kVis_head dcis_head pmis_head cdis_head ctis_head : Value}
    {ffirst_word : Addr} {odfirst_word anfirst_word : Option Addr} {slfirst_word : Array (Option Value)} {ocfirst_word kVfirst_word dcfirst_word pmfirst_word cdfirst_word ctfirst_word : Value}
    {fis_choice : Addr} {odis_choice anis_choice : Option Addr} {slis_choice : Array (Option Value)} {ocis_choice kVis_choice dcis_choice pmis_choice cdis_choice ctis_choice : Value}
    {fis_array : Addr} {odis_array anis_array : Option Addr} {slis_array : Array (Option Value)} {ocis_array kVis_array dcis_array pmis_array cdis_array ctis_array : Value}
    {fis_int_param : Addr} {odis_int_param anis_int_param : Option Addr} {slis_int_param : Array (Option Value)} {ocis_int_param kVis_int_param dcis_int_param pmis_int_param cdis_int_param ctis_int_param : Value}
    {fis_common_part : Addr} {odis_common_part anis_common_part : Option Addr} {slis_common_part : Array (Option Value)} {ocis_common_part kVis_common_part dcis_common_part pmis_common_part cdis_common_part ctis_common_part : Value}
    {fis_code_part : Addr} {odis_code_part anis_code_part : Option Addr} {slis_code_part : Array (Option Value)} {ocis_code_part kVis_code_part dcis_code_part pmis_code_part cdis_code_part ctis_code_part : Value}
    {fis_code_instruction : Addr} {odis_code_instruction anis_code_instruction : Option Addr} {slis_code_instruction : Array (Option Value)} {ocis_code_instruction kVis_code_instruction dcis_code_instruction pmis_code_instruction cdis_code_instruction ctis_code_instruction : Value}
    {fis_code : Addr} {odis_code anis_code : Option Addr} {slis_code : Array (Option Value)} {ocis_code kVis_code dcis_code pmis_code cdis_code ctis_code : Value}
    {fcheck_code : Addr} {odcheck_code ancheck_code : Option Addr} {slcheck_code : Array (Option Value)} {occheck_code kVcheck_code dccheck_code pmcheck_code cdcheck_code ctcheck_code : Value}
    {flaw_stream : Addr} {odlaw_stream anlaw_stream : Option Addr} {sllaw_stream : Array (Option Value)} {oclaw_stream kVlaw_stream dclaw_stream pmlaw_stream cdlaw_stream ctlaw_stream : Value}
    {flaw_draw : Addr} {odlaw_draw anlaw_draw : Option Addr} {sllaw_draw : Array (Option Value)} {oclaw_draw kVlaw_draw dclaw_draw pmlaw_draw cdlaw_draw ctlaw_draw : Value}
    {flaw_word : Addr} {odlaw_word anlaw_word : Option Addr} {sllaw_word : Array (Option Value)} {oclaw_word kVlaw_word dclaw_word pmlaw_word cdlaw_word ctlaw_word : Value}
    {flaw_wrapped : Addr} {odlaw_wrapped anlaw_wrapped : Option Addr} {sllaw_wrapped : Array (Option Value)} {oclaw_wrapped kVlaw_wrapped dclaw_wrapped pmlaw_wrapped cdlaw_wrapped ctlaw_wrapped : Value}
    {flaw_bits : Addr} {odlaw_bits anlaw_bits : Option Addr} {sllaw_bits : Array (Option Value)} {oclaw_bits kVlaw_bits dclaw_bits pmlaw_bits cdlaw_bits ctlaw_bits : Value}
    {flaw_shifted : Addr} {odlaw_shifted anlaw_shifted : Option Addr} {sllaw_shifted : Array (Option Value)} {oclaw_shifted kVlaw_shifted dclaw_shifted pmlaw_shifted cdlaw_shifted ctlaw_shifted : Value}
    {flaw_binary : Addr} {odlaw_binary anlaw_binary : Option Addr} {sllaw_binary : Array (Option Value)} {oclaw_binary kVlaw_binary dclaw_binary pmlaw_binary cdlaw_binary ctlaw_binary : Value}
    {flaw_unary : Addr} {odlaw_unary anlaw_unary : Option Addr} {sllaw_unary : Array (Option Value)} {oclaw_unary kVlaw_unary dclaw_unary pmlaw_unary cdlaw_unary ctlaw_unary : Value}
    {flaw_register : Addr} {odlaw_register anlaw_register : Option Addr} {sllaw_register : Array (Option Value)} {oclaw_register kVlaw_register dclaw_register pmlaw_register cdlaw_register ctlaw_register : Value}
    {flaw_plain_instruction : Addr} {odlaw_plain_instruction anlaw_plain_instruction : Option Addr} {sllaw_plain_instruction : Array (Option Value)} {oclaw_plain_instruction kVlaw_plain_instruction dclaw_plain_instruction pmlaw_plain_instruction cdlaw_plain_instruction ctlaw_plain_instruction : Value}
    {flaw_instruction : Addr} {odlaw_instruction anlaw_instruction : Option Addr} {sllaw_instruction : Array (Option Value)} {oclaw_instruction kVlaw_instruction dclaw_instruction pmlaw_instruction cdlaw_instruction ctlaw_instruction : Value}
    {flaw_code : Addr} {odlaw_code anlaw_code : Option Addr} {sllaw_code : Array (Option Value)} {oclaw_code kVlaw_code dclaw_code pmlaw_code cdlaw_code ctlaw_code : Value}
    {flaw_started : Addr} {odlaw_started anlaw_started : Option Addr} {sllaw_started : Array (Option Value)} {oclaw_started kVlaw_started dclaw_started pmlaw_started cdlaw_started ctlaw_started : Value}
    {flaw_first : Addr} {odlaw_first anlaw_first : Option Addr} {sllaw_first : Array (Option Value)} {oclaw_first kVlaw_first dclaw_first pmlaw_first cdlaw_first ctlaw_first : Value}
    {flaw_request : Addr} {odlaw_request anlaw_request : Option Addr} {sllaw_request : Array (Option Value)} {oclaw_request kVlaw_request dclaw_request pmlaw_request cdlaw_request ctlaw_request : Value}
    {flaw_written : Addr} {odlaw_written anlaw_written : Option Addr} {sllaw_written : Array (Option Value)} {oclaw_written kVlaw_written dclaw_written pmlaw_written cdlaw_written ctlaw_written : Value}
    {flaw_behind : Addr} {odlaw_behind anlaw_behind : Option Addr} {sllaw_behind : Array (Option Value)} {oclaw_behind kVlaw_behind dclaw_behind pmlaw_behind cdlaw_behind ctlaw_behind : Value}
    {flaw : Addr} {odlaw anlaw : Option Addr} {sllaw : Array (Option Value)} {oclaw kVlaw dclaw pmlaw cdlaw ctlaw : Value}
    {CDrawloomError : Addr}
    {CBadCode : Addr}
    {tLEAST : Tok}
    {tNO_REGISTER : Tok}
    {tMANY_REGISTERS : Tok}
    {pBINARY_ACTIONS : Addr} {esBINARY_ACTIONS : Array DictEntry} {nBINARY_ACTIONS : Nat}
    {pUNARY_ACTIONS : Addr} {esUNARY_ACTIONS : Array DictEntry} {nUNARY_ACTIONS : Nat}
    {pWRITTEN_AT : Addr} {esWRITTEN_AT : Array DictEntry} {nWRITTEN_AT : Nat}
    {pNO_REQUEST : Addr} {odNO_REQUEST : Option Addr} {itsNO_REQUEST : Array Value} {nNO_REQUEST : Nat} {slNO_REQUEST : Array (Option Value)}
    {tGREATEST : Tok}
    {tFIRST_SHARED : Tok}
    {tMOST_NUMBER : Tok}
    {tMOST_CELLS : Tok}
    {tMOST_INSTRUCTIONS : Tok}
    {tMOST_LETTERS : Tok}
    {tMOST_PARAMS : Tok}
    {tMOST_SHARED : Tok}
    {tMOST_SHARED_CELLS : Tok}
    {tLETTERS : Tok}
    {tDIGITS : Tok}
    {pSPECIALS : Addr} {odSPECIALS : Option Addr} {itsSPECIALS : Array Value} {nSPECIALS : Nat} {slSPECIALS : Array (Option Value)}
    {pUNARY : Addr} {odUNARY : Option Addr} {itsUNARY : Array Value} {nUNARY : Nat} {slUNARY : Array (Option Value)}
    {pFOLDING : Addr} {odFOLDING : Option Addr} {itsFOLDING : Array Value} {nFOLDING : Nat} {slFOLDING : Array (Option Value)}
    {pBINARY : Addr} {odBINARY : Option Addr} {itsBINARY : Array Value} {nBINARY : Nat} {slBINARY : Array (Option Value)}
    {pCODE_PARTS : Addr} {esCODE_PARTS : Array DictEntry} {nCODE_PARTS : Nat}
    {qCODE_PARTS_0 : Addr} {odCODE_PARTS_0 : Option Addr} {itsCODE_PARTS_0 : Array Value} {nCODE_PARTS_0 : Nat} {slCODE_PARTS_0 : Array (Option Value)}
    {qCODE_PARTS_1 : Addr} {odCODE_PARTS_1 : Option Addr} {itsCODE_PARTS_1 : Array Value} {nCODE_PARTS_1 : Nat} {slCODE_PARTS_1 : Array (Option Value)}
    {qCODE_PARTS_2 : Addr} {odCODE_PARTS_2 : Option Addr} {itsCODE_PARTS_2 : Array Value} {nCODE_PARTS_2 : Nat} {slCODE_PARTS_2 : Array (Option Value)}
    {qCODE_PARTS_3 : Addr} {odCODE_PARTS_3 : Option Addr} {itsCODE_PARTS_3 : Array Value} {nCODE_PARTS_3 : Nat} {slCODE_PARTS_3 : Array (Option Value)}
    {qCODE_PARTS_4 : Addr} {odCODE_PARTS_4 : Option Addr} {itsCODE_PARTS_4 : Array Value} {nCODE_PARTS_4 : Nat} {slCODE_PARTS_4 : Array (Option Value)}
    {pINSTRUCTION_PARTS : Addr} {esINSTRUCTION_PARTS : Array DictEntry} {nINSTRUCTION_PARTS : Nat}
    {qINSTRUCTION_PARTS_0 : Addr} {odINSTRUCTION_PARTS_0 : Option Addr} {itsINSTRUCTION_PARTS_0 : Array Value} {nINSTRUCTION_PARTS_0 : Nat} {slINSTRUCTION_PARTS_0 : Array (Option Value)}
    {qINSTRUCTION_PARTS_1 : Addr} {odINSTRUCTION_PARTS_1 : Option Addr} {itsINSTRUCTION_PARTS_1 : Array Value} {nINSTRUCTION_PARTS_1 : Nat} {slINSTRUCTION_PARTS_1 : Array (Option Value)}
    {qINSTRUCTION_PARTS_2 : Addr} {odINSTRUCTION_PARTS_2 : Option Addr} {itsINSTRUCTION_PARTS_2 : Array Value} {nINSTRUCTION_PARTS_2 : Nat} {slINSTRUCTION_PARTS_2 : Array (Option Value)}
    {qINSTRUCTION_PARTS_3 : Addr} {odINSTRUCTION_PARTS_3 : Option Addr} {itsINSTRUCTION_PARTS_3 : Array Value} {nINSTRUCTION_PARTS_3 : Nat} {slINSTRUCTION_PARTS_3 : Array (Option Value)}
    {qINSTRUCTION_PARTS_4 : Addr} {odINSTRUCTION_PARTS_4 : Option Addr} {itsINSTRUCTION_PARTS_4 : Array Value} {nINSTRUCTION_PARTS_4 : Nat} {slINSTRUCTION_PARTS_4 : Array (Option Value)}
    {qINSTRUCTION_PARTS_5 : Addr} {odINSTRUCTION_PARTS_5 : Option Addr} {itsINSTRUCTION_PARTS_5 : Array Value} {nINSTRUCTION_PARTS_5 : Nat} {slINSTRUCTION_PARTS_5 : Array (Option Value)}
    {qINSTRUCTION_PARTS_6 : Addr} {odINSTRUCTION_PARTS_6 : Option Addr} {itsINSTRUCTION_PARTS_6 : Array Value} {nINSTRUCTION_PARTS_6 : Nat} {slINSTRUCTION_PARTS_6 : Array (Option Value)}
    {qINSTRUCTION_PARTS_7 : Addr} {odINSTRUCTION_PARTS_7 : Option Addr} {itsINSTRUCTION_PARTS_7 : Array Value} {nINSTRUCTION_PARTS_7 : Nat} {slINSTRUCTION_PARTS_7 : Array (Option Value)}
    {qINSTRUCTION_PARTS_8 : Addr} {odINSTRUCTION_PARTS_8 : Option Addr} {itsINSTRUCTION_PARTS_8 : Array Value} {nINSTRUCTION_PARTS_8 : Nat} {slINSTRUCTION_PARTS_8 : Array (Option Value)}
    {qINSTRUCTION_PARTS_9 : Addr} {odINSTRUCTION_PARTS_9 : Option Addr} {itsINSTRUCTION_PARTS_9 : Array Value} {nINSTRUCTION_PARTS_9 : Nat} {slINSTRUCTION_PARTS_9 : Array (Option Value)}
    {qINSTRUCTION_PARTS_10 : Addr} {odINSTRUCTION_PARTS_10 : Option Addr} {itsINSTRUCTION_PARTS_10 : Array Value} {nINSTRUCTION_PARTS_10 : Nat} {slINSTRUCTION_PARTS_10 : Array (Option Value)}
    (ais_between : PySem.W.nsIn K mainGlobals "is_between" = some (some (.ref fis_between)))
    (lis_between : K.lookup fis_between = some ⟨ocis_between, odis_between, .func (PySem.W.fnOf "is_between" "is_between" (defArgs s_is_between) (defBody s_is_between) (defScope s_is_between) .none kVis_between dcis_between pmis_between anis_between cdis_between ctis_between), slis_between⟩)
    (cis_between : PySem.W.codeIn K cdis_between "is_between" = true)
    (kis_between : PySem.W.keepIn K (.ref fis_between) = true)
    (ais_word : PySem.W.nsIn K mainGlobals "is_word" = some (some (.ref fis_word)))
    (lis_word : K.lookup fis_word = some ⟨ocis_word, odis_word, .func (PySem.W.fnOf "is_word" "is_word" (defArgs s_is_word) (defBody s_is_word) (defScope s_is_word) .none kVis_word dcis_word pmis_word anis_word cdis_word ctis_word), slis_word⟩)
    (cis_word : PySem.W.codeIn K cdis_word "is_word" = true)
    (kis_word : PySem.W.keepIn K (.ref fis_word) = true)
    (awrapped : PySem.W.nsIn K mainGlobals "wrapped" = some (some (.ref fwrapped)))
    (lwrapped : K.lookup fwrapped = some ⟨ocwrapped, odwrapped, .func (PySem.W.fnOf "wrapped" "wrapped" (defArgs s_wrapped) (defBody s_wrapped) (defScope s_wrapped) .none kVwrapped dcwrapped pmwrapped anwrapped cdwrapped ctwrapped), slwrapped⟩)
    (cwrapped : PySem.W.codeIn K cdwrapped "wrapped" = true)
    (kwrapped : PySem.W.keepIn K (.ref fwrapped) = true)
    (asum_of : PySem.W.nsIn K mainGlobals "sum_of" = some (some (.ref fsum_of)))
    (lsum_of : K.lookup fsum_of = some ⟨ocsum_of, odsum_of, .func (PySem.W.fnOf "sum_of" "sum_of" (defArgs s_sum_of) (defBody s_sum_of) (defScope s_sum_of) .none kVsum_of dcsum_of pmsum_of ansum_of cdsum_of ctsum_of), slsum_of⟩)
    (csum_of : PySem.W.codeIn K cdsum_of "sum_of" = true)
    (ksum_of : PySem.W.keepIn K (.ref fsum_of) = true)
    (adifference : PySem.W.nsIn K mainGlobals "difference" = some (some (.ref fdifference)))
    (ldifference : K.lookup fdifference = some ⟨ocdifference, oddifference, .func (PySem.W.fnOf "difference" "difference" (defArgs s_difference) (defBody s_difference) (defScope s_difference) .none kVdifference dcdifference pmdifference andifference cddifference ctdifference), sldifference⟩)
    (cdifference : PySem.W.codeIn K cddifference "difference" = true)
    (kdifference : PySem.W.keepIn K (.ref fdifference) = true)
    (aproduct_of : PySem.W.nsIn K mainGlobals "product_of" = some (some (.ref fproduct_of)))
    (lproduct_of : K.lookup fproduct_of = some ⟨ocproduct_of, odproduct_of, .func (PySem.W.fnOf "product_of" "product_of" (defArgs s_product_of) (defBody s_product_of) (defScope s_product_of) .none kVproduct_of dcproduct_of pmproduct_of anproduct_of cdproduct_of ctproduct_of), slproduct_of⟩)
    (cproduct_of : PySem.W.codeIn K cdproduct_of "product_of" = true)
    (kproduct_of : PySem.W.keepIn K (.ref fproduct_of) = true)
    (aquotient : PySem.W.nsIn K mainGlobals "quotient" = some (some (.ref fquotient)))
    (lquotient : K.lookup fquotient = some ⟨ocquotient, odquotient, .func (PySem.W.fnOf "quotient" "quotient" (defArgs s_quotient) (defBody s_quotient) (defScope s_quotient) .none kVquotient dcquotient pmquotient anquotient cdquotient ctquotient), slquotient⟩)
    (cquotient : PySem.W.codeIn K cdquotient "quotient" = true)
    (kquotient : PySem.W.keepIn K (.ref fquotient) = true)
    (aremainder : PySem.W.nsIn K mainGlobals "remainder" = some (some (.ref fremainder)))
    (lremainder : K.lookup fremainder = some ⟨ocremainder, odremainder, .func (PySem.W.fnOf "remainder" "remainder" (defArgs s_remainder) (defBody s_remainder) (defScope s_remainder) .none kVremainder dcremainder pmremainder anremainder cdremainder ctremainder), slremainder⟩)
    (cremainder : PySem.W.codeIn K cdremainder "remainder" = true)
    (kremainder : PySem.W.keepIn K (.ref fremainder) = true)
    (abits_of_both : PySem.W.nsIn K mainGlobals "bits_of_both" = some (some (.ref fbits_of_both)))
    (lbits_of_both : K.lookup fbits_of_both = some ⟨ocbits_of_both, odbits_of_both, .func (PySem.W.fnOf "bits_of_both" "bits_of_both" (defArgs s_bits_of_both) (defBody s_bits_of_both) (defScope s_bits_of_both) .none kVbits_of_both dcbits_of_both pmbits_of_both anbits_of_both cdbits_of_both ctbits_of_both), slbits_of_both⟩)
    (cbits_of_both : PySem.W.codeIn K cdbits_of_both "bits_of_both" = true)
    (kbits_of_both : PySem.W.keepIn K (.ref fbits_of_both) = true)
    (abits_of_any : PySem.W.nsIn K mainGlobals "bits_of_any" = some (some (.ref fbits_of_any)))
    (lbits_of_any : K.lookup fbits_of_any = some ⟨ocbits_of_any, odbits_of_any, .func (PySem.W.fnOf "bits_of_any" "bits_of_any" (defArgs s_bits_of_any) (defBody s_bits_of_any) (defScope s_bits_of_any) .none kVbits_of_any dcbits_of_any pmbits_of_any anbits_of_any cdbits_of_any ctbits_of_any), slbits_of_any⟩)
    (cbits_of_any : PySem.W.codeIn K cdbits_of_any "bits_of_any" = true)
    (kbits_of_any : PySem.W.keepIn K (.ref fbits_of_any) = true)
    (abits_of_one : PySem.W.nsIn K mainGlobals "bits_of_one" = some (some (.ref fbits_of_one)))
    (lbits_of_one : K.lookup fbits_of_one = some ⟨ocbits_of_one, odbits_of_one, .func (PySem.W.fnOf "bits_of_one" "bits_of_one" (defArgs s_bits_of_one) (defBody s_bits_of_one) (defScope s_bits_of_one) .none kVbits_of_one dcbits_of_one pmbits_of_one anbits_of_one cdbits_of_one ctbits_of_one), slbits_of_one⟩)
    (cbits_of_one : PySem.W.codeIn K cdbits_of_one "bits_of_one" = true)
    (kbits_of_one : PySem.W.keepIn K (.ref fbits_of_one) = true)
    (ashifted_left : PySem.W.nsIn K mainGlobals "shifted_left" = some (some (.ref fshifted_left)))
    (lshifted_left : K.lookup fshifted_left = some ⟨ocshifted_left, odshifted_left, .func (PySem.W.fnOf "shifted_left" "shifted_left" (defArgs s_shifted_left) (defBody s_shifted_left) (defScope s_shifted_left) .none kVshifted_left dcshifted_left pmshifted_left anshifted_left cdshifted_left ctshifted_left), slshifted_left⟩)
    (cshifted_left : PySem.W.codeIn K cdshifted_left "shifted_left" = true)
    (kshifted_left : PySem.W.keepIn K (.ref fshifted_left) = true)
    (ashifted_right : PySem.W.nsIn K mainGlobals "shifted_right" = some (some (.ref fshifted_right)))
    (lshifted_right : K.lookup fshifted_right = some ⟨ocshifted_right, odshifted_right, .func (PySem.W.fnOf "shifted_right" "shifted_right" (defArgs s_shifted_right) (defBody s_shifted_right) (defScope s_shifted_right) .none kVshifted_right dcshifted_right pmshifted_right anshifted_right cdshifted_right ctshifted_right), slshifted_right⟩)
    (cshifted_right : PySem.W.codeIn K cdshifted_right "shifted_right" = true)
    (kshifted_right : PySem.W.keepIn K (.ref fshifted_right) = true)
    (ais_less : PySem.W.nsIn K mainGlobals "is_less" = some (some (.ref fis_less)))
    (lis_less : K.lookup fis_less = some ⟨ocis_less, odis_less, .func (PySem.W.fnOf "is_less" "is_less" (defArgs s_is_less) (defBody s_is_less) (defScope s_is_less) .none kVis_less dcis_less pmis_less anis_less cdis_less ctis_less), slis_less⟩)
    (cis_less : PySem.W.codeIn K cdis_less "is_less" = true)
    (kis_less : PySem.W.keepIn K (.ref fis_less) = true)
    (ais_at_most : PySem.W.nsIn K mainGlobals "is_at_most" = some (some (.ref fis_at_most)))
    (lis_at_most : K.lookup fis_at_most = some ⟨ocis_at_most, odis_at_most, .func (PySem.W.fnOf "is_at_most" "is_at_most" (defArgs s_is_at_most) (defBody s_is_at_most) (defScope s_is_at_most) .none kVis_at_most dcis_at_most pmis_at_most anis_at_most cdis_at_most ctis_at_most), slis_at_most⟩)
    (cis_at_most : PySem.W.codeIn K cdis_at_most "is_at_most" = true)
    (kis_at_most : PySem.W.keepIn K (.ref fis_at_most) = true)
    (ais_equal : PySem.W.nsIn K mainGlobals "is_equal" = some (some (.ref fis_equal)))
    (lis_equal : K.lookup fis_equal = some ⟨ocis_equal, odis_equal, .func (PySem.W.fnOf "is_equal" "is_equal" (defArgs s_is_equal) (defBody s_is_equal) (defScope s_is_equal) .none kVis_equal dcis_equal pmis_equal anis_equal cdis_equal ctis_equal), slis_equal⟩)
    (cis_equal : PySem.W.codeIn K cdis_equal "is_equal" = true)
    (kis_equal : PySem.W.keepIn K (.ref fis_equal) = true)
    (ais_other : PySem.W.nsIn K mainGlobals "is_other" = some (some (.ref fis_other)))
    (lis_other : K.lookup fis_other = some ⟨ocis_other, odis_other, .func (PySem.W.fnOf "is_other" "is_other" (defArgs s_is_other) (defBody s_is_other) (defScope s_is_other) .none kVis_other dcis_other pmis_other anis_other cdis_other ctis_other), slis_other⟩)
    (cis_other : PySem.W.codeIn K cdis_other "is_other" = true)
    (kis_other : PySem.W.keepIn K (.ref fis_other) = true)
    (alesser : PySem.W.nsIn K mainGlobals "lesser" = some (some (.ref flesser)))
    (llesser : K.lookup flesser = some ⟨oclesser, odlesser, .func (PySem.W.fnOf "lesser" "lesser" (defArgs s_lesser) (defBody s_lesser) (defScope s_lesser) .none kVlesser dclesser pmlesser anlesser cdlesser ctlesser), sllesser⟩)
    (clesser : PySem.W.codeIn K cdlesser "lesser" = true)
    (klesser : PySem.W.keepIn K (.ref flesser) = true)
    (agreater : PySem.W.nsIn K mainGlobals "greater" = some (some (.ref fgreater)))
    (lgreater : K.lookup fgreater = some ⟨ocgreater, odgreater, .func (PySem.W.fnOf "greater" "greater" (defArgs s_greater) (defBody s_greater) (defScope s_greater) .none kVgreater dcgreater pmgreater angreater cdgreater ctgreater), slgreater⟩)
    (cgreater : PySem.W.codeIn K cdgreater "greater" = true)
    (kgreater : PySem.W.keepIn K (.ref fgreater) = true)
    (anegative : PySem.W.nsIn K mainGlobals "negative" = some (some (.ref fnegative)))
    (lnegative : K.lookup fnegative = some ⟨ocnegative, odnegative, .func (PySem.W.fnOf "negative" "negative" (defArgs s_negative) (defBody s_negative) (defScope s_negative) .none kVnegative dcnegative pmnegative annegative cdnegative ctnegative), slnegative⟩)
    (cnegative : PySem.W.codeIn K cdnegative "negative" = true)
    (knegative : PySem.W.keepIn K (.ref fnegative) = true)
    (aturned_bits : PySem.W.nsIn K mainGlobals "turned_bits" = some (some (.ref fturned_bits)))
    (lturned_bits : K.lookup fturned_bits = some ⟨octurned_bits, odturned_bits, .func (PySem.W.fnOf "turned_bits" "turned_bits" (defArgs s_turned_bits) (defBody s_turned_bits) (defScope s_turned_bits) .none kVturned_bits dcturned_bits pmturned_bits anturned_bits cdturned_bits ctturned_bits), slturned_bits⟩)
    (cturned_bits : PySem.W.codeIn K cdturned_bits "turned_bits" = true)
    (kturned_bits : PySem.W.keepIn K (.ref fturned_bits) = true)
    (ais_zero : PySem.W.nsIn K mainGlobals "is_zero" = some (some (.ref fis_zero)))
    (lis_zero : K.lookup fis_zero = some ⟨ocis_zero, odis_zero, .func (PySem.W.fnOf "is_zero" "is_zero" (defArgs s_is_zero) (defBody s_is_zero) (defScope s_is_zero) .none kVis_zero dcis_zero pmis_zero anis_zero cdis_zero ctis_zero), slis_zero⟩)
    (cis_zero : PySem.W.codeIn K cdis_zero "is_zero" = true)
    (kis_zero : PySem.W.keepIn K (.ref fis_zero) = true)
    (abinary : PySem.W.nsIn K mainGlobals "binary" = some (some (.ref fbinary)))
    (lbinary : K.lookup fbinary = some ⟨ocbinary, odbinary, .func (PySem.W.fnOf "binary" "binary" (defArgs s_binary) (defBody s_binary) (defScope s_binary) .none kVbinary dcbinary pmbinary anbinary cdbinary ctbinary), slbinary⟩)
    (cbinary : PySem.W.codeIn K cdbinary "binary" = true)
    (kbinary : PySem.W.keepIn K (.ref fbinary) = true)
    (aunary : PySem.W.nsIn K mainGlobals "unary" = some (some (.ref funary)))
    (lunary : K.lookup funary = some ⟨ocunary, odunary, .func (PySem.W.fnOf "unary" "unary" (defArgs s_unary) (defBody s_unary) (defScope s_unary) .none kVunary dcunary pmunary anunary cdunary ctunary), slunary⟩)
    (cunary : PySem.W.codeIn K cdunary "unary" = true)
    (kunary : PySem.W.keepIn K (.ref funary) = true)
    (aspecial : PySem.W.nsIn K mainGlobals "special" = some (some (.ref fspecial)))
    (lspecial : K.lookup fspecial = some ⟨ocspecial, odspecial, .func (PySem.W.fnOf "special" "special" (defArgs s_special) (defBody s_special) (defScope s_special) .none kVspecial dcspecial pmspecial anspecial cdspecial ctspecial), slspecial⟩)
    (cspecial : PySem.W.codeIn K cdspecial "special" = true)
    (kspecial : PySem.W.keepIn K (.ref fspecial) = true)
    (aasked_by : PySem.W.nsIn K mainGlobals "asked_by" = some (some (.ref fasked_by)))
    (lasked_by : K.lookup fasked_by = some ⟨ocasked_by, odasked_by, .func (PySem.W.fnOf "asked_by" "asked_by" (defArgs s_asked_by) (defBody s_asked_by) (defScope s_asked_by) .none kVasked_by dcasked_by pmasked_by anasked_by cdasked_by ctasked_by), slasked_by⟩)
    (casked_by : PySem.W.codeIn K cdasked_by "asked_by" = true)
    (kasked_by : PySem.W.keepIn K (.ref fasked_by) = true)
    (amade_by : PySem.W.nsIn K mainGlobals "made_by" = some (some (.ref fmade_by)))
    (lmade_by : K.lookup fmade_by = some ⟨ocmade_by, odmade_by, .func (PySem.W.fnOf "made_by" "made_by" (defArgs s_made_by) (defBody s_made_by) (defScope s_made_by) .none kVmade_by dcmade_by pmmade_by anmade_by cdmade_by ctmade_by), slmade_by⟩)
    (cmade_by : PySem.W.codeIn K cdmade_by "made_by" = true)
    (kmade_by : PySem.W.keepIn K (.ref fmade_by) = true)
    (awritten : PySem.W.nsIn K mainGlobals "written" = some (some (.ref fwritten)))
    (lwritten : K.lookup fwritten = some ⟨ocwritten, odwritten, .func (PySem.W.fnOf "written" "written" (defArgs s_written) (defBody s_written) (defScope s_written) .none kVwritten dcwritten pmwritten anwritten cdwritten ctwritten), slwritten⟩)
    (cwritten : PySem.W.codeIn K cdwritten "written" = true)
    (kwritten : PySem.W.keepIn K (.ref fwritten) = true)
    (afirst_lane : PySem.W.nsIn K mainGlobals "first_lane" = some (some (.ref ffirst_lane)))
    (lfirst_lane : K.lookup ffirst_lane = some ⟨ocfirst_lane, odfirst_lane, .func (PySem.W.fnOf "first_lane" "first_lane" (defArgs s_first_lane) (defBody s_first_lane) (defScope s_first_lane) .none kVfirst_lane dcfirst_lane pmfirst_lane anfirst_lane cdfirst_lane ctfirst_lane), slfirst_lane⟩)
    (cfirst_lane : PySem.W.codeIn K cdfirst_lane "first_lane" = true)
    (kfirst_lane : PySem.W.keepIn K (.ref ffirst_lane) = true)
    (arequest : PySem.W.nsIn K mainGlobals "request" = some (some (.ref frequest)))
    (lrequest : K.lookup frequest = some ⟨ocrequest, odrequest, .func (PySem.W.fnOf "request" "request" (defArgs s_request) (defBody s_request) (defScope s_request) .none kVrequest dcrequest pmrequest anrequest cdrequest ctrequest), slrequest⟩)
    (crequest : PySem.W.codeIn K cdrequest "request" = true)
    (krequest : PySem.W.keepIn K (.ref frequest) = true)
    (awith_word : PySem.W.nsIn K mainGlobals "with_word" = some (some (.ref fwith_word)))
    (lwith_word : K.lookup fwith_word = some ⟨ocwith_word, odwith_word, .func (PySem.W.fnOf "with_word" "with_word" (defArgs s_with_word) (defBody s_with_word) (defScope s_with_word) .none kVwith_word dcwith_word pmwith_word anwith_word cdwith_word ctwith_word), slwith_word⟩)
    (cwith_word : PySem.W.codeIn K cdwith_word "with_word" = true)
    (kwith_word : PySem.W.keepIn K (.ref fwith_word) = true)
    (anext_index : PySem.W.nsIn K mainGlobals "next_index" = some (some (.ref fnext_index)))
    (lnext_index : K.lookup fnext_index = some ⟨ocnext_index, odnext_index, .func (PySem.W.fnOf "next_index" "next_index" (defArgs s_next_index) (defBody s_next_index) (defScope s_next_index) .none kVnext_index dcnext_index pmnext_index annext_index cdnext_index ctnext_index), slnext_index⟩)
    (cnext_index : PySem.W.codeIn K cdnext_index "next_index" = true)
    (knext_index : PySem.W.keepIn K (.ref fnext_index) = true)
    (abehind : PySem.W.nsIn K mainGlobals "behind" = some (some (.ref fbehind)))
    (lbehind : K.lookup fbehind = some ⟨ocbehind, odbehind, .func (PySem.W.fnOf "behind" "behind" (defArgs s_behind) (defBody s_behind) (defScope s_behind) .none kVbehind dcbehind pmbehind anbehind cdbehind ctbehind), slbehind⟩)
    (cbehind : PySem.W.codeIn K cdbehind "behind" = true)
    (kbehind : PySem.W.keepIn K (.ref fbehind) = true)
    (ais_tuple : PySem.W.nsIn K mainGlobals "is_tuple" = some (some (.ref fis_tuple)))
    (lis_tuple : K.lookup fis_tuple = some ⟨ocis_tuple, odis_tuple, .func (PySem.W.fnOf "is_tuple" "is_tuple" (defArgs s_is_tuple) (defBody s_is_tuple) (defScope s_is_tuple) .none kVis_tuple dcis_tuple pmis_tuple anis_tuple cdis_tuple ctis_tuple), slis_tuple⟩)
    (cis_tuple : PySem.W.codeIn K cdis_tuple "is_tuple" = true)
    (kis_tuple : PySem.W.keepIn K (.ref fis_tuple) = true)
    (ais_name : PySem.W.nsIn K mainGlobals "is_name" = some (some (.ref fis_name)))
    (lis_name : K.lookup fis_name = some ⟨ocis_name, odis_name, .func (PySem.W.fnOf "is_name" "is_name" (defArgs s_is_name) (defBody s_is_name) (defScope s_is_name) .none kVis_name dcis_name pmis_name anis_name cdis_name ctis_name), slis_name⟩)
    (cis_name : PySem.W.codeIn K cdis_name "is_name" = true)
    (kis_name : PySem.W.keepIn K (.ref fis_name) = true)
    (ais_param : PySem.W.nsIn K mainGlobals "is_param" = some (some (.ref fis_param)))
    (lis_param : K.lookup fis_param = some ⟨ocis_param, odis_param, .func (PySem.W.fnOf "is_param" "is_param" (defArgs s_is_param) (defBody s_is_param) (defScope s_is_param) .none kVis_param dcis_param pmis_param anis_param cdis_param ctis_param), slis_param⟩)
    (cis_param : PySem.W.codeIn K cdis_param "is_param" = true)
    (kis_param : PySem.W.keepIn K (.ref fis_param) = true)
    (ais_shared_array : PySem.W.nsIn K mainGlobals "is_shared_array" = some (some (.ref fis_shared_array)))
    (lis_shared_array : K.lookup fis_shared_array = some ⟨ocis_shared_array, odis_shared_array, .func (PySem.W.fnOf "is_shared_array" "is_shared_array" (defArgs s_is_shared_array) (defBody s_is_shared_array) (defScope s_is_shared_array) .none kVis_shared_array dcis_shared_array pmis_shared_array anis_shared_array cdis_shared_array ctis_shared_array), slis_shared_array⟩)
    (cis_shared_array : PySem.W.codeIn K cdis_shared_array "is_shared_array" = true)
    (kis_shared_array : PySem.W.keepIn K (.ref fis_shared_array) = true)
    (ais_head : PySem.W.nsIn K mainGlobals "is_head" = some (some (.ref fis_head)))
    (lis_head : K.lookup fis_head = some ⟨ocis_head, odis_head, .func (PySem.W.fnOf "is_head" "is_head" (defArgs s_is_head) (defBody s_is_head) (defScope s_is_head) .none kVis_head dcis_head pmis_head anis_head cdis_head ctis_head), slis_head⟩)
    (cis_head : PySem.W.codeIn K cdis_head "is_head" = true)
    (kis_head : PySem.W.keepIn K (.ref fis_head) = true)
    (afirst_word : PySem.W.nsIn K mainGlobals "first_word" = some (some (.ref ffirst_word)))
    (lfirst_word : K.lookup ffirst_word = some ⟨ocfirst_word, odfirst_word, .func (PySem.W.fnOf "first_word" "first_word" (defArgs s_first_word) (defBody s_first_word) (defScope s_first_word) .none kVfirst_word dcfirst_word pmfirst_word anfirst_word cdfirst_word ctfirst_word), slfirst_word⟩)
    (cfirst_word : PySem.W.codeIn K cdfirst_word "first_word" = true)
    (kfirst_word : PySem.W.keepIn K (.ref ffirst_word) = true)
    (ais_choice : PySem.W.nsIn K mainGlobals "is_choice" = some (some (.ref fis_choice)))
    (lis_choice : K.lookup fis_choice = some ⟨ocis_choice, odis_choice, .func (PySem.W.fnOf "is_choice" "is_choice" (defArgs s_is_choice) (defBody s_is_choice) (defScope s_is_choice) .none kVis_choice dcis_choice pmis_choice anis_choice cdis_choice ctis_choice), slis_choice⟩)
    (cis_choice : PySem.W.codeIn K cdis_choice "is_choice" = true)
    (kis_choice : PySem.W.keepIn K (.ref fis_choice) = true)
    (ais_array : PySem.W.nsIn K mainGlobals "is_array" = some (some (.ref fis_array)))
    (lis_array : K.lookup fis_array = some ⟨ocis_array, odis_array, .func (PySem.W.fnOf "is_array" "is_array" (defArgs s_is_array) (defBody s_is_array) (defScope s_is_array) .none kVis_array dcis_array pmis_array anis_array cdis_array ctis_array), slis_array⟩)
    (cis_array : PySem.W.codeIn K cdis_array "is_array" = true)
    (kis_array : PySem.W.keepIn K (.ref fis_array) = true)
    (ais_int_param : PySem.W.nsIn K mainGlobals "is_int_param" = some (some (.ref fis_int_param)))
    (lis_int_param : K.lookup fis_int_param = some ⟨ocis_int_param, odis_int_param, .func (PySem.W.fnOf "is_int_param" "is_int_param" (defArgs s_is_int_param) (defBody s_is_int_param) (defScope s_is_int_param) .none kVis_int_param dcis_int_param pmis_int_param anis_int_param cdis_int_param ctis_int_param), slis_int_param⟩)
    (cis_int_param : PySem.W.codeIn K cdis_int_param "is_int_param" = true)
    (kis_int_param : PySem.W.keepIn K (.ref fis_int_param) = true)
    (ais_common_part : PySem.W.nsIn K mainGlobals "is_common_part" = some (some (.ref fis_common_part)))
    (lis_common_part : K.lookup fis_common_part = some ⟨ocis_common_part, odis_common_part, .func (PySem.W.fnOf "is_common_part" "is_common_part" (defArgs s_is_common_part) (defBody s_is_common_part) (defScope s_is_common_part) .none kVis_common_part dcis_common_part pmis_common_part anis_common_part cdis_common_part ctis_common_part), slis_common_part⟩)
    (cis_common_part : PySem.W.codeIn K cdis_common_part "is_common_part" = true)
    (kis_common_part : PySem.W.keepIn K (.ref fis_common_part) = true)
    (ais_code_part : PySem.W.nsIn K mainGlobals "is_code_part" = some (some (.ref fis_code_part)))
    (lis_code_part : K.lookup fis_code_part = some ⟨ocis_code_part, odis_code_part, .func (PySem.W.fnOf "is_code_part" "is_code_part" (defArgs s_is_code_part) (defBody s_is_code_part) (defScope s_is_code_part) .none kVis_code_part dcis_code_part pmis_code_part anis_code_part cdis_code_part ctis_code_part), slis_code_part⟩)
    (cis_code_part : PySem.W.codeIn K cdis_code_part "is_code_part" = true)
    (kis_code_part : PySem.W.keepIn K (.ref fis_code_part) = true)
    (ais_code_instruction : PySem.W.nsIn K mainGlobals "is_code_instruction" = some (some (.ref fis_code_instruction)))
    (lis_code_instruction : K.lookup fis_code_instruction = some ⟨ocis_code_instruction, odis_code_instruction, .func (PySem.W.fnOf "is_code_instruction" "is_code_instruction" (defArgs s_is_code_instruction) (defBody s_is_code_instruction) (defScope s_is_code_instruction) .none kVis_code_instruction dcis_code_instruction pmis_code_instruction anis_code_instruction cdis_code_instruction ctis_code_instruction), slis_code_instruction⟩)
    (cis_code_instruction : PySem.W.codeIn K cdis_code_instruction "is_code_instruction" = true)
    (kis_code_instruction : PySem.W.keepIn K (.ref fis_code_instruction) = true)
    (ais_code : PySem.W.nsIn K mainGlobals "is_code" = some (some (.ref fis_code)))
    (lis_code : K.lookup fis_code = some ⟨ocis_code, odis_code, .func (PySem.W.fnOf "is_code" "is_code" (defArgs s_is_code) (defBody s_is_code) (defScope s_is_code) .none kVis_code dcis_code pmis_code anis_code cdis_code ctis_code), slis_code⟩)
    (cis_code : PySem.W.codeIn K cdis_code "is_code" = true)
    (kis_code : PySem.W.keepIn K (.ref fis_code) = true)
    (acheck_code : PySem.W.nsIn K mainGlobals "check_code" = some (some (.ref fcheck_code)))
    (lcheck_code : K.lookup fcheck_code = some ⟨occheck_code, odcheck_code, .func (PySem.W.fnOf "check_code" "check_code" (defArgs s_check_code) (defBody s_check_code) (defScope s_check_code) .none kVcheck_code dccheck_code pmcheck_code ancheck_code cdcheck_code ctcheck_code), slcheck_code⟩)
    (ccheck_code : PySem.W.codeIn K cdcheck_code "check_code" = true)
    (kcheck_code : PySem.W.keepIn K (.ref fcheck_code) = true)
    (alaw_stream : PySem.W.nsIn K mainGlobals "_law_stream" = some (some (.ref flaw_stream)))
    (llaw_stream : K.lookup flaw_stream = some ⟨oclaw_stream, odlaw_stream, .func (PySem.W.fnOf "_law_stream" "_law_stream" (defArgs s_law_stream) (defBody s_law_stream) (defScope s_law_stream) .none kVlaw_stream dclaw_stream pmlaw_stream anlaw_stream cdlaw_stream ctlaw_stream), sllaw_stream⟩)
    (claw_stream : PySem.W.codeIn K cdlaw_stream "_law_stream" = true)
    (klaw_stream : PySem.W.keepIn K (.ref flaw_stream) = true)
    (alaw_draw : PySem.W.nsIn K mainGlobals "_law_draw" = some (some (.ref flaw_draw)))
    (llaw_draw : K.lookup flaw_draw = some ⟨oclaw_draw, odlaw_draw, .func (PySem.W.fnOf "_law_draw" "_law_draw" (defArgs s_law_draw) (defBody s_law_draw) (defScope s_law_draw) .none kVlaw_draw dclaw_draw pmlaw_draw anlaw_draw cdlaw_draw ctlaw_draw), sllaw_draw⟩)
    (claw_draw : PySem.W.codeIn K cdlaw_draw "_law_draw" = true)
    (klaw_draw : PySem.W.keepIn K (.ref flaw_draw) = true)
    (alaw_word : PySem.W.nsIn K mainGlobals "_law_word" = some (some (.ref flaw_word)))
    (llaw_word : K.lookup flaw_word = some ⟨oclaw_word, odlaw_word, .func (PySem.W.fnOf "_law_word" "_law_word" (defArgs s_law_word) (defBody s_law_word) (defScope s_law_word) .none kVlaw_word dclaw_word pmlaw_word anlaw_word cdlaw_word ctlaw_word), sllaw_word⟩)
    (claw_word : PySem.W.codeIn K cdlaw_word "_law_word" = true)
    (klaw_word : PySem.W.keepIn K (.ref flaw_word) = true)
    (alaw_wrapped : PySem.W.nsIn K mainGlobals "_law_wrapped" = some (some (.ref flaw_wrapped)))
    (llaw_wrapped : K.lookup flaw_wrapped = some ⟨oclaw_wrapped, odlaw_wrapped, .func (PySem.W.fnOf "_law_wrapped" "_law_wrapped" (defArgs s_law_wrapped) (defBody s_law_wrapped) (defScope s_law_wrapped) .none kVlaw_wrapped dclaw_wrapped pmlaw_wrapped anlaw_wrapped cdlaw_wrapped ctlaw_wrapped), sllaw_wrapped⟩)
    (claw_wrapped : PySem.W.codeIn K cdlaw_wrapped "_law_wrapped" = true)
    (klaw_wrapped : PySem.W.keepIn K (.ref flaw_wrapped) = true)
    (alaw_bits : PySem.W.nsIn K mainGlobals "_law_bits" = some (some (.ref flaw_bits)))
    (llaw_bits : K.lookup flaw_bits = some ⟨oclaw_bits, odlaw_bits, .func (PySem.W.fnOf "_law_bits" "_law_bits" (defArgs s_law_bits) (defBody s_law_bits) (defScope s_law_bits) .none kVlaw_bits dclaw_bits pmlaw_bits anlaw_bits cdlaw_bits ctlaw_bits), sllaw_bits⟩)
    (claw_bits : PySem.W.codeIn K cdlaw_bits "_law_bits" = true)
    (klaw_bits : PySem.W.keepIn K (.ref flaw_bits) = true)
    (alaw_shifted : PySem.W.nsIn K mainGlobals "_law_shifted" = some (some (.ref flaw_shifted)))
    (llaw_shifted : K.lookup flaw_shifted = some ⟨oclaw_shifted, odlaw_shifted, .func (PySem.W.fnOf "_law_shifted" "_law_shifted" (defArgs s_law_shifted) (defBody s_law_shifted) (defScope s_law_shifted) .none kVlaw_shifted dclaw_shifted pmlaw_shifted anlaw_shifted cdlaw_shifted ctlaw_shifted), sllaw_shifted⟩)
    (claw_shifted : PySem.W.codeIn K cdlaw_shifted "_law_shifted" = true)
    (klaw_shifted : PySem.W.keepIn K (.ref flaw_shifted) = true)
    (alaw_binary : PySem.W.nsIn K mainGlobals "_law_binary" = some (some (.ref flaw_binary)))
    (llaw_binary : K.lookup flaw_binary = some ⟨oclaw_binary, odlaw_binary, .func (PySem.W.fnOf "_law_binary" "_law_binary" (defArgs s_law_binary) (defBody s_law_binary) (defScope s_law_binary) .none kVlaw_binary dclaw_binary pmlaw_binary anlaw_binary cdlaw_binary ctlaw_binary), sllaw_binary⟩)
    (claw_binary : PySem.W.codeIn K cdlaw_binary "_law_binary" = true)
    (klaw_binary : PySem.W.keepIn K (.ref flaw_binary) = true)
    (alaw_unary : PySem.W.nsIn K mainGlobals "_law_unary" = some (some (.ref flaw_unary)))
    (llaw_unary : K.lookup flaw_unary = some ⟨oclaw_unary, odlaw_unary, .func (PySem.W.fnOf "_law_unary" "_law_unary" (defArgs s_law_unary) (defBody s_law_unary) (defScope s_law_unary) .none kVlaw_unary dclaw_unary pmlaw_unary anlaw_unary cdlaw_unary ctlaw_unary), sllaw_unary⟩)
    (claw_unary : PySem.W.codeIn K cdlaw_unary "_law_unary" = true)
    (klaw_unary : PySem.W.keepIn K (.ref flaw_unary) = true)
    (alaw_register : PySem.W.nsIn K mainGlobals "_law_register" = some (some (.ref flaw_register)))
    (llaw_register : K.lookup flaw_register = some ⟨oclaw_register, odlaw_register, .func (PySem.W.fnOf "_law_register" "_law_register" (defArgs s_law_register) (defBody s_law_register) (defScope s_law_register) .none kVlaw_register dclaw_register pmlaw_register anlaw_register cdlaw_register ctlaw_register), sllaw_register⟩)
    (claw_register : PySem.W.codeIn K cdlaw_register "_law_register" = true)
    (klaw_register : PySem.W.keepIn K (.ref flaw_register) = true)
    (alaw_plain_instruction : PySem.W.nsIn K mainGlobals "_law_plain_instruction" = some (some (.ref flaw_plain_instruction)))
    (llaw_plain_instruction : K.lookup flaw_plain_instruction = some ⟨oclaw_plain_instruction, odlaw_plain_instruction, .func (PySem.W.fnOf "_law_plain_instruction" "_law_plain_instruction" (defArgs s_law_plain_instruction) (defBody s_law_plain_instruction) (defScope s_law_plain_instruction) .none kVlaw_plain_instruction dclaw_plain_instruction pmlaw_plain_instruction anlaw_plain_instruction cdlaw_plain_instruction ctlaw_plain_instruction), sllaw_plain_instruction⟩)
    (claw_plain_instruction : PySem.W.codeIn K cdlaw_plain_instruction "_law_plain_instruction" = true)
    (klaw_plain_instruction : PySem.W.keepIn K (.ref flaw_plain_instruction) = true)
    (alaw_instruction : PySem.W.nsIn K mainGlobals "_law_instruction" = some (some (.ref flaw_instruction)))
    (llaw_instruction : K.lookup flaw_instruction = some ⟨oclaw_instruction, odlaw_instruction, .func (PySem.W.fnOf "_law_instruction" "_law_instruction" (defArgs s_law_instruction) (defBody s_law_instruction) (defScope s_law_instruction) .none kVlaw_instruction dclaw_instruction pmlaw_instruction anlaw_instruction cdlaw_instruction ctlaw_instruction), sllaw_instruction⟩)
    (claw_instruction : PySem.W.codeIn K cdlaw_instruction "_law_instruction" = true)
    (klaw_instruction : PySem.W.keepIn K (.ref flaw_instruction) = true)
    (alaw_code : PySem.W.nsIn K mainGlobals "_law_code" = some (some (.ref flaw_code)))
    (llaw_code : K.lookup flaw_code = some ⟨oclaw_code, odlaw_code, .func (PySem.W.fnOf "_law_code" "_law_code" (defArgs s_law_code) (defBody s_law_code) (defScope s_law_code) .none kVlaw_code dclaw_code pmlaw_code anlaw_code cdlaw_code ctlaw_code), sllaw_code⟩)
    (claw_code : PySem.W.codeIn K cdlaw_code "_law_code" = true)
    (klaw_code : PySem.W.keepIn K (.ref flaw_code) = true)
    (alaw_started : PySem.W.nsIn K mainGlobals "_law_started" = some (some (.ref flaw_started)))
    (llaw_started : K.lookup flaw_started = some ⟨oclaw_started, odlaw_started, .func (PySem.W.fnOf "_law_started" "_law_started" (defArgs s_law_started) (defBody s_law_started) (defScope s_law_started) .none kVlaw_started dclaw_started pmlaw_started anlaw_started cdlaw_started ctlaw_started), sllaw_started⟩)
    (claw_started : PySem.W.codeIn K cdlaw_started "_law_started" = true)
    (klaw_started : PySem.W.keepIn K (.ref flaw_started) = true)
    (alaw_first : PySem.W.nsIn K mainGlobals "_law_first" = some (some (.ref flaw_first)))
    (llaw_first : K.lookup flaw_first = some ⟨oclaw_first, odlaw_first, .func (PySem.W.fnOf "_law_first" "_law_first" (defArgs s_law_first) (defBody s_law_first) (defScope s_law_first) .none kVlaw_first dclaw_first pmlaw_first anlaw_first cdlaw_first ctlaw_first), sllaw_first⟩)
    (claw_first : PySem.W.codeIn K cdlaw_first "_law_first" = true)
    (klaw_first : PySem.W.keepIn K (.ref flaw_first) = true)
    (alaw_request : PySem.W.nsIn K mainGlobals "_law_request" = some (some (.ref flaw_request)))
    (llaw_request : K.lookup flaw_request = some ⟨oclaw_request, odlaw_request, .func (PySem.W.fnOf "_law_request" "_law_request" (defArgs s_law_request) (defBody s_law_request) (defScope s_law_request) .none kVlaw_request dclaw_request pmlaw_request anlaw_request cdlaw_request ctlaw_request), sllaw_request⟩)
    (claw_request : PySem.W.codeIn K cdlaw_request "_law_request" = true)
    (klaw_request : PySem.W.keepIn K (.ref flaw_request) = true)
    (alaw_written : PySem.W.nsIn K mainGlobals "_law_written" = some (some (.ref flaw_written)))
    (llaw_written : K.lookup flaw_written = some ⟨oclaw_written, odlaw_written, .func (PySem.W.fnOf "_law_written" "_law_written" (defArgs s_law_written) (defBody s_law_written) (defScope s_law_written) .none kVlaw_written dclaw_written pmlaw_written anlaw_written cdlaw_written ctlaw_written), sllaw_written⟩)
    (claw_written : PySem.W.codeIn K cdlaw_written "_law_written" = true)
    (klaw_written : PySem.W.keepIn K (.ref flaw_written) = true)
    (alaw_behind : PySem.W.nsIn K mainGlobals "_law_behind" = some (some (.ref flaw_behind)))
    (llaw_behind : K.lookup flaw_behind = some ⟨oclaw_behind, odlaw_behind, .func (PySem.W.fnOf "_law_behind" "_law_behind" (defArgs s_law_behind) (defBody s_law_behind) (defScope s_law_behind) .none kVlaw_behind dclaw_behind pmlaw_behind anlaw_behind cdlaw_behind ctlaw_behind), sllaw_behind⟩)
    (claw_behind : PySem.W.codeIn K cdlaw_behind "_law_behind" = true)
    (klaw_behind : PySem.W.keepIn K (.ref flaw_behind) = true)
    (alaw : PySem.W.nsIn K mainGlobals "law" = some (some (.ref flaw)))
    (llaw : K.lookup flaw = some ⟨oclaw, odlaw, .func (PySem.W.fnOf "law" "law" (defArgs s_law) (defBody s_law) (defScope s_law) .none kVlaw dclaw pmlaw anlaw cdlaw ctlaw), sllaw⟩)
    (claw : PySem.W.codeIn K cdlaw "law" = true)
    (klaw : PySem.W.keepIn K (.ref flaw) = true)
    (aCDrawloomError : PySem.W.nsIn K mainGlobals "DrawloomError" = some (some (.ref CDrawloomError)))
    (xCDrawloomError : PySem.W.excIn K CDrawloomError [.type "ValueError", .type "Exception", .type "BaseException", .type "object"] "ValueError.__new__" = true)
    (kCDrawloomError : PySem.W.keepIn K (.ref CDrawloomError) = true)
    (bCDrawloomError : PySem.W.subIn K (.ref CDrawloomError) (.type "BaseException") = some true)
    (tCDrawloomError : PySem.W.typeIn K (.ref CDrawloomError) = some (.type "type"))
    (dCDrawloomError : PySem.W.hasDictIn K CDrawloomError = true)
    (mCDrawloomError : PySem.W.subIn K (.ref CDrawloomError) (.ref CDrawloomError) = some true)
    (e1DrawloomError : PySem.W.findIn K (.ref CDrawloomError) "__getattribute__" = some (some (.builtin "BaseException.__getattribute__")))
    (e2DrawloomError : PySem.W.findIn K (.ref CDrawloomError) "__getattr__" = some none)
    (e5DrawloomError : PySem.W.findIn K (.ref CDrawloomError) "__class__" = some (some (.builtin "object.__class__")))
    (e6DrawloomError : PySem.W.specialIn K (.builtin "object.__class__") "__get__" = some (some (.builtin "getset_descriptor.__get__")))
    (e7DrawloomError : PySem.W.takesIn K (.builtin "object.__class__") = some true)
    (e8DrawloomError : PySem.W.mroIn K CDrawloomError (.type "object") = some true)
    (vDrawloomError : PySem.W.kitOne K (.ref CDrawloomError) (.type "ValueError") = some true)
    (aCBadCode : PySem.W.nsIn K mainGlobals "BadCode" = some (some (.ref CBadCode)))
    (xCBadCode : PySem.W.excIn K CBadCode [.type "ValueError", .type "Exception", .type "BaseException", .type "object"] "ValueError.__new__" = true)
    (kCBadCode : PySem.W.keepIn K (.ref CBadCode) = true)
    (bCBadCode : PySem.W.subIn K (.ref CBadCode) (.type "BaseException") = some true)
    (tCBadCode : PySem.W.typeIn K (.ref CBadCode) = some (.type "type"))
    (dCBadCode : PySem.W.hasDictIn K CBadCode = true)
    (mCBadCode : PySem.W.subIn K (.ref CBadCode) (.ref CBadCode) = some true)
    (e1BadCode : PySem.W.findIn K (.ref CBadCode) "__getattribute__" = some (some (.builtin "BaseException.__getattribute__")))
    (e2BadCode : PySem.W.findIn K (.ref CBadCode) "__getattr__" = some none)
    (e5BadCode : PySem.W.findIn K (.ref CBadCode) "__class__" = some (some (.builtin "object.__class__")))
    (e6BadCode : PySem.W.specialIn K (.builtin "object.__class__") "__get__" = some (some (.builtin "getset_descriptor.__get__")))
    (e7BadCode : PySem.W.takesIn K (.builtin "object.__class__") = some true)
    (e8BadCode : PySem.W.mroIn K CBadCode (.type "object") = some true)
    (vBadCode : PySem.W.kitOne K (.ref CBadCode) (.type "ValueError") = some true)
    (kkBadCodeDrawloomError : PySem.W.kitOne K (.ref CBadCode) (.ref CDrawloomError) = some true)
    (zabs : PySem.W.nsIn K mainGlobals "abs" = some none)
    (zall : PySem.W.nsIn K mainGlobals "all" = some none)
    (zany : PySem.W.nsIn K mainGlobals "any" = some none)
    (zbool : PySem.W.nsIn K mainGlobals "bool" = some none)
    (zenumerate : PySem.W.nsIn K mainGlobals "enumerate" = some none)
    (zint : PySem.W.nsIn K mainGlobals "int" = some none)
    (zisinstance : PySem.W.nsIn K mainGlobals "isinstance" = some none)
    (zlen : PySem.W.nsIn K mainGlobals "len" = some none)
    (zlist : PySem.W.nsIn K mainGlobals "list" = some none)
    (zmax : PySem.W.nsIn K mainGlobals "max" = some none)
    (zmin : PySem.W.nsIn K mainGlobals "min" = some none)
    (zrange : PySem.W.nsIn K mainGlobals "range" = some none)
    (zrepr : PySem.W.nsIn K mainGlobals "repr" = some none)
    (zset : PySem.W.nsIn K mainGlobals "set" = some none)
    (zsorted : PySem.W.nsIn K mainGlobals "sorted" = some none)
    (zstr : PySem.W.nsIn K mainGlobals "str" = some none)
    (ztuple : PySem.W.nsIn K mainGlobals "tuple" = some none)
    (zzip : PySem.W.nsIn K mainGlobals "zip" = some none)
    (iLEAST : PySem.W.nsIn K mainGlobals "LEAST" = some (some (.int (-2147483648) tLEAST)))
    (iNO_REGISTER : PySem.W.nsIn K mainGlobals "NO_REGISTER" = some (some (.int (-1) tNO_REGISTER)))
    (iMANY_REGISTERS : PySem.W.nsIn K mainGlobals "MANY_REGISTERS" = some (some (.int (8) tMANY_REGISTERS)))
    (aBINARY_ACTIONS : PySem.W.nsIn K mainGlobals "BINARY_ACTIONS" = some (some (.ref pBINARY_ACTIONS)))
    (lBINARY_ACTIONS : K.lookup pBINARY_ACTIONS = some ⟨.type "dict", none, .dict esBINARY_ACTIONS nBINARY_ACTIONS, #[]⟩)
    (vBINARY_ACTIONS : PySem.W.KeysLit w.params esBINARY_ACTIONS.toList)
    (eBINARY_ACTIONS_add : PySem.W.nsIn K pBINARY_ACTIONS "add" = some (some (.ref fsum_of)))
    (eBINARY_ACTIONS_sub : PySem.W.nsIn K pBINARY_ACTIONS "sub" = some (some (.ref fdifference)))
    (eBINARY_ACTIONS_mul : PySem.W.nsIn K pBINARY_ACTIONS "mul" = some (some (.ref fproduct_of)))
    (eBINARY_ACTIONS_div : PySem.W.nsIn K pBINARY_ACTIONS "div" = some (some (.ref fquotient)))
    (eBINARY_ACTIONS_rem : PySem.W.nsIn K pBINARY_ACTIONS "rem" = some (some (.ref fremainder)))
    (eBINARY_ACTIONS_and : PySem.W.nsIn K pBINARY_ACTIONS "and" = some (some (.ref fbits_of_both)))
    (eBINARY_ACTIONS_or : PySem.W.nsIn K pBINARY_ACTIONS "or" = some (some (.ref fbits_of_any)))
    (eBINARY_ACTIONS_xor : PySem.W.nsIn K pBINARY_ACTIONS "xor" = some (some (.ref fbits_of_one)))
    (eBINARY_ACTIONS_shl : PySem.W.nsIn K pBINARY_ACTIONS "shl" = some (some (.ref fshifted_left)))
    (eBINARY_ACTIONS_shr : PySem.W.nsIn K pBINARY_ACTIONS "shr" = some (some (.ref fshifted_right)))
    (eBINARY_ACTIONS_lt : PySem.W.nsIn K pBINARY_ACTIONS "lt" = some (some (.ref fis_less)))
    (eBINARY_ACTIONS_le : PySem.W.nsIn K pBINARY_ACTIONS "le" = some (some (.ref fis_at_most)))
    (eBINARY_ACTIONS_eq : PySem.W.nsIn K pBINARY_ACTIONS "eq" = some (some (.ref fis_equal)))
    (eBINARY_ACTIONS_ne : PySem.W.nsIn K pBINARY_ACTIONS "ne" = some (some (.ref fis_other)))
    (eBINARY_ACTIONS_min : PySem.W.nsIn K pBINARY_ACTIONS "min" = some (some (.ref flesser)))
    (eBINARY_ACTIONS_max : PySem.W.nsIn K pBINARY_ACTIONS "max" = some (some (.ref fgreater)))
    (aUNARY_ACTIONS : PySem.W.nsIn K mainGlobals "UNARY_ACTIONS" = some (some (.ref pUNARY_ACTIONS)))
    (lUNARY_ACTIONS : K.lookup pUNARY_ACTIONS = some ⟨.type "dict", none, .dict esUNARY_ACTIONS nUNARY_ACTIONS, #[]⟩)
    (vUNARY_ACTIONS : PySem.W.KeysLit w.params esUNARY_ACTIONS.toList)
    (eUNARY_ACTIONS_neg : PySem.W.nsIn K pUNARY_ACTIONS "neg" = some (some (.ref fnegative)))
    (eUNARY_ACTIONS_not : PySem.W.nsIn K pUNARY_ACTIONS "not" = some (some (.ref fturned_bits)))
    (eUNARY_ACTIONS_zero : PySem.W.nsIn K pUNARY_ACTIONS "zero" = some (some (.ref fis_zero)))
    (aWRITTEN_AT : PySem.W.nsIn K mainGlobals "WRITTEN_AT" = some (some (.ref pWRITTEN_AT)))
    (lWRITTEN_AT : K.lookup pWRITTEN_AT = some ⟨.type "dict", none, .dict esWRITTEN_AT nWRITTEN_AT, #[]⟩)
    (vWRITTEN_AT : PySem.W.KeysLit w.params esWRITTEN_AT.toList)
    (sWRITTEN_AT : (pWRITTEN_AT == sysModules) = false)
    (rWRITTEN_AT : KRows esWRITTEN_AT.toList [("word", .int (1)), ("param", .int (1)), ("special", .int (1)), ("copy", .int (1)), ("load", .int (1)), ("phi", .int (1)), ("unary", .int (2)), ("binary", .int (2)), ("collect", .int (2))])
    (aNO_REQUEST : PySem.W.nsIn K mainGlobals "NO_REQUEST" = some (some (.ref pNO_REQUEST)))
    (lNO_REQUEST : K.lookup pNO_REQUEST = some ⟨.type "tuple", odNO_REQUEST, .seq itsNO_REQUEST nNO_REQUEST, slNO_REQUEST⟩)
    (mNO_REQUEST : itsNO_REQUEST.size ≤ sizeLine)
    (vNO_REQUEST : Vals ([.str "none"]) itsNO_REQUEST.toList)
    (iGREATEST : PySem.W.nsIn K mainGlobals "GREATEST" = some (some (.int (2147483647) tGREATEST)))
    (iFIRST_SHARED : PySem.W.nsIn K mainGlobals "FIRST_SHARED" = some (some (.int (6) tFIRST_SHARED)))
    (iMOST_NUMBER : PySem.W.nsIn K mainGlobals "MOST_NUMBER" = some (some (.int (99) tMOST_NUMBER)))
    (iMOST_CELLS : PySem.W.nsIn K mainGlobals "MOST_CELLS" = some (some (.int (64) tMOST_CELLS)))
    (iMOST_INSTRUCTIONS : PySem.W.nsIn K mainGlobals "MOST_INSTRUCTIONS" = some (some (.int (2000) tMOST_INSTRUCTIONS)))
    (iMOST_LETTERS : PySem.W.nsIn K mainGlobals "MOST_LETTERS" = some (some (.int (12) tMOST_LETTERS)))
    (iMOST_PARAMS : PySem.W.nsIn K mainGlobals "MOST_PARAMS" = some (some (.int (6) tMOST_PARAMS)))
    (iMOST_SHARED : PySem.W.nsIn K mainGlobals "MOST_SHARED" = some (some (.int (3) tMOST_SHARED)))
    (iMOST_SHARED_CELLS : PySem.W.nsIn K mainGlobals "MOST_SHARED_CELLS" = some (some (.int (16) tMOST_SHARED_CELLS)))
    (iLETTERS : PySem.W.nsIn K mainGlobals "LETTERS" = some (some (.str "abcdefghijklmnopqrstuvwxyz" tLETTERS)))
    (iDIGITS : PySem.W.nsIn K mainGlobals "DIGITS" = some (some (.str "0123456789" tDIGITS)))
    (aSPECIALS : PySem.W.nsIn K mainGlobals "SPECIALS" = some (some (.ref pSPECIALS)))
    (lSPECIALS : K.lookup pSPECIALS = some ⟨.type "tuple", odSPECIALS, .seq itsSPECIALS nSPECIALS, slSPECIALS⟩)
    (mSPECIALS : itsSPECIALS.size ≤ sizeLine)
    (vSPECIALS : Vals ([.str "tid", .str "bid", .str "dim", .str "grid"]) itsSPECIALS.toList)
    (aUNARY : PySem.W.nsIn K mainGlobals "UNARY" = some (some (.ref pUNARY)))
    (lUNARY : K.lookup pUNARY = some ⟨.type "tuple", odUNARY, .seq itsUNARY nUNARY, slUNARY⟩)
    (mUNARY : itsUNARY.size ≤ sizeLine)
    (vUNARY : Vals ([.str "neg", .str "not", .str "zero"]) itsUNARY.toList)
    (aFOLDING : PySem.W.nsIn K mainGlobals "FOLDING" = some (some (.ref pFOLDING)))
    (lFOLDING : K.lookup pFOLDING = some ⟨.type "tuple", odFOLDING, .seq itsFOLDING nFOLDING, slFOLDING⟩)
    (mFOLDING : itsFOLDING.size ≤ sizeLine)
    (vFOLDING : Vals ([.str "add", .str "min", .str "max", .str "and", .str "or", .str "xor"]) itsFOLDING.toList)
    (aBINARY : PySem.W.nsIn K mainGlobals "BINARY" = some (some (.ref pBINARY)))
    (lBINARY : K.lookup pBINARY = some ⟨.type "tuple", odBINARY, .seq itsBINARY nBINARY, slBINARY⟩)
    (mBINARY : itsBINARY.size ≤ sizeLine)
    (vBINARY : Vals ([.str "add", .str "sub", .str "mul", .str "div", .str "rem", .str "and", .str "or", .str "xor", .str "shl", .str "shr", .str "lt", .str "le", .str "eq", .str "ne", .str "min", .str "max"]) itsBINARY.toList)
    (aCODE_PARTS : PySem.W.nsIn K mainGlobals "CODE_PARTS" = some (some (.ref pCODE_PARTS)))
    (lCODE_PARTS : K.lookup pCODE_PARTS = some ⟨.type "dict", none, .dict esCODE_PARTS nCODE_PARTS, #[]⟩)
    (vCODE_PARTS : PySem.W.KeysLit w.params esCODE_PARTS.toList)
    (sCODE_PARTS : (pCODE_PARTS == sysModules) = false)
    (rCODE_PARTS : KRows esCODE_PARTS.toList [("get", .ref qCODE_PARTS_0), ("keep", .ref qCODE_PARTS_1), ("jump", .ref qCODE_PARTS_2), ("branch", .ref qCODE_PARTS_3), ("exit", .ref qCODE_PARTS_4)])
    (lCODE_PARTS_0 : K.lookup qCODE_PARTS_0 = some ⟨.type "tuple", odCODE_PARTS_0, .seq itsCODE_PARTS_0 nCODE_PARTS_0, slCODE_PARTS_0⟩)
    (mCODE_PARTS_0 : itsCODE_PARTS_0.size ≤ sizeLine)
    (vCODE_PARTS_0 : Vals [.str "write", .str "cell"] itsCODE_PARTS_0.toList)
    (lCODE_PARTS_1 : K.lookup qCODE_PARTS_1 = some ⟨.type "tuple", odCODE_PARTS_1, .seq itsCODE_PARTS_1 nCODE_PARTS_1, slCODE_PARTS_1⟩)
    (mCODE_PARTS_1 : itsCODE_PARTS_1.size ≤ sizeLine)
    (vCODE_PARTS_1 : Vals [.str "cell", .str "read"] itsCODE_PARTS_1.toList)
    (lCODE_PARTS_2 : K.lookup qCODE_PARTS_2 = some ⟨.type "tuple", odCODE_PARTS_2, .seq itsCODE_PARTS_2 nCODE_PARTS_2, slCODE_PARTS_2⟩)
    (mCODE_PARTS_2 : itsCODE_PARTS_2.size ≤ sizeLine)
    (vCODE_PARTS_2 : Vals [.str "index"] itsCODE_PARTS_2.toList)
    (lCODE_PARTS_3 : K.lookup qCODE_PARTS_3 = some ⟨.type "tuple", odCODE_PARTS_3, .seq itsCODE_PARTS_3 nCODE_PARTS_3, slCODE_PARTS_3⟩)
    (mCODE_PARTS_3 : itsCODE_PARTS_3.size ≤ sizeLine)
    (vCODE_PARTS_3 : Vals [.str "read", .str "index", .str "join"] itsCODE_PARTS_3.toList)
    (lCODE_PARTS_4 : K.lookup qCODE_PARTS_4 = some ⟨.type "tuple", odCODE_PARTS_4, .seq itsCODE_PARTS_4 nCODE_PARTS_4, slCODE_PARTS_4⟩)
    (mCODE_PARTS_4 : itsCODE_PARTS_4.size ≤ sizeLine)
    (vCODE_PARTS_4 : Vals [] itsCODE_PARTS_4.toList)
    (aINSTRUCTION_PARTS : PySem.W.nsIn K mainGlobals "INSTRUCTION_PARTS" = some (some (.ref pINSTRUCTION_PARTS)))
    (lINSTRUCTION_PARTS : K.lookup pINSTRUCTION_PARTS = some ⟨.type "dict", none, .dict esINSTRUCTION_PARTS nINSTRUCTION_PARTS, #[]⟩)
    (vINSTRUCTION_PARTS : PySem.W.KeysLit w.params esINSTRUCTION_PARTS.toList)
    (sINSTRUCTION_PARTS : (pINSTRUCTION_PARTS == sysModules) = false)
    (rINSTRUCTION_PARTS : KRows esINSTRUCTION_PARTS.toList [("word", .ref qINSTRUCTION_PARTS_0), ("param", .ref qINSTRUCTION_PARTS_1), ("special", .ref qINSTRUCTION_PARTS_2), ("copy", .ref qINSTRUCTION_PARTS_3), ("unary", .ref qINSTRUCTION_PARTS_4), ("binary", .ref qINSTRUCTION_PARTS_5), ("load", .ref qINSTRUCTION_PARTS_6), ("store", .ref qINSTRUCTION_PARTS_7), ("atomic", .ref qINSTRUCTION_PARTS_8), ("barrier", .ref qINSTRUCTION_PARTS_9), ("collect", .ref qINSTRUCTION_PARTS_10)])
    (lINSTRUCTION_PARTS_0 : K.lookup qINSTRUCTION_PARTS_0 = some ⟨.type "tuple", odINSTRUCTION_PARTS_0, .seq itsINSTRUCTION_PARTS_0 nINSTRUCTION_PARTS_0, slINSTRUCTION_PARTS_0⟩)
    (mINSTRUCTION_PARTS_0 : itsINSTRUCTION_PARTS_0.size ≤ sizeLine)
    (vINSTRUCTION_PARTS_0 : Vals [.str "write", .str "word"] itsINSTRUCTION_PARTS_0.toList)
    (lINSTRUCTION_PARTS_1 : K.lookup qINSTRUCTION_PARTS_1 = some ⟨.type "tuple", odINSTRUCTION_PARTS_1, .seq itsINSTRUCTION_PARTS_1 nINSTRUCTION_PARTS_1, slINSTRUCTION_PARTS_1⟩)
    (mINSTRUCTION_PARTS_1 : itsINSTRUCTION_PARTS_1.size ≤ sizeLine)
    (vINSTRUCTION_PARTS_1 : Vals [.str "write", .str "param"] itsINSTRUCTION_PARTS_1.toList)
    (lINSTRUCTION_PARTS_2 : K.lookup qINSTRUCTION_PARTS_2 = some ⟨.type "tuple", odINSTRUCTION_PARTS_2, .seq itsINSTRUCTION_PARTS_2 nINSTRUCTION_PARTS_2, slINSTRUCTION_PARTS_2⟩)
    (mINSTRUCTION_PARTS_2 : itsINSTRUCTION_PARTS_2.size ≤ sizeLine)
    (vINSTRUCTION_PARTS_2 : Vals [.str "write", .str "special"] itsINSTRUCTION_PARTS_2.toList)
    (lINSTRUCTION_PARTS_3 : K.lookup qINSTRUCTION_PARTS_3 = some ⟨.type "tuple", odINSTRUCTION_PARTS_3, .seq itsINSTRUCTION_PARTS_3 nINSTRUCTION_PARTS_3, slINSTRUCTION_PARTS_3⟩)
    (mINSTRUCTION_PARTS_3 : itsINSTRUCTION_PARTS_3.size ≤ sizeLine)
    (vINSTRUCTION_PARTS_3 : Vals [.str "write", .str "read"] itsINSTRUCTION_PARTS_3.toList)
    (lINSTRUCTION_PARTS_4 : K.lookup qINSTRUCTION_PARTS_4 = some ⟨.type "tuple", odINSTRUCTION_PARTS_4, .seq itsINSTRUCTION_PARTS_4 nINSTRUCTION_PARTS_4, slINSTRUCTION_PARTS_4⟩)
    (mINSTRUCTION_PARTS_4 : itsINSTRUCTION_PARTS_4.size ≤ sizeLine)
    (vINSTRUCTION_PARTS_4 : Vals [.str "unary", .str "write", .str "read"] itsINSTRUCTION_PARTS_4.toList)
    (lINSTRUCTION_PARTS_5 : K.lookup qINSTRUCTION_PARTS_5 = some ⟨.type "tuple", odINSTRUCTION_PARTS_5, .seq itsINSTRUCTION_PARTS_5 nINSTRUCTION_PARTS_5, slINSTRUCTION_PARTS_5⟩)
    (mINSTRUCTION_PARTS_5 : itsINSTRUCTION_PARTS_5.size ≤ sizeLine)
    (vINSTRUCTION_PARTS_5 : Vals [.str "binary", .str "write", .str "read", .str "read"] itsINSTRUCTION_PARTS_5.toList)
    (lINSTRUCTION_PARTS_6 : K.lookup qINSTRUCTION_PARTS_6 = some ⟨.type "tuple", odINSTRUCTION_PARTS_6, .seq itsINSTRUCTION_PARTS_6 nINSTRUCTION_PARTS_6, slINSTRUCTION_PARTS_6⟩)
    (mINSTRUCTION_PARTS_6 : itsINSTRUCTION_PARTS_6.size ≤ sizeLine)
    (vINSTRUCTION_PARTS_6 : Vals [.str "write", .str "array", .str "read"] itsINSTRUCTION_PARTS_6.toList)
    (lINSTRUCTION_PARTS_7 : K.lookup qINSTRUCTION_PARTS_7 = some ⟨.type "tuple", odINSTRUCTION_PARTS_7, .seq itsINSTRUCTION_PARTS_7 nINSTRUCTION_PARTS_7, slINSTRUCTION_PARTS_7⟩)
    (mINSTRUCTION_PARTS_7 : itsINSTRUCTION_PARTS_7.size ≤ sizeLine)
    (vINSTRUCTION_PARTS_7 : Vals [.str "array", .str "read", .str "read"] itsINSTRUCTION_PARTS_7.toList)
    (lINSTRUCTION_PARTS_8 : K.lookup qINSTRUCTION_PARTS_8 = some ⟨.type "tuple", odINSTRUCTION_PARTS_8, .seq itsINSTRUCTION_PARTS_8 nINSTRUCTION_PARTS_8, slINSTRUCTION_PARTS_8⟩)
    (mINSTRUCTION_PARTS_8 : itsINSTRUCTION_PARTS_8.size ≤ sizeLine)
    (vINSTRUCTION_PARTS_8 : Vals [.str "folding", .str "array", .str "read", .str "read"] itsINSTRUCTION_PARTS_8.toList)
    (lINSTRUCTION_PARTS_9 : K.lookup qINSTRUCTION_PARTS_9 = some ⟨.type "tuple", odINSTRUCTION_PARTS_9, .seq itsINSTRUCTION_PARTS_9 nINSTRUCTION_PARTS_9, slINSTRUCTION_PARTS_9⟩)
    (mINSTRUCTION_PARTS_9 : itsINSTRUCTION_PARTS_9.size ≤ sizeLine)
    (vINSTRUCTION_PARTS_9 : Vals [.str "number"] itsINSTRUCTION_PARTS_9.toList)
    (lINSTRUCTION_PARTS_10 : K.lookup qINSTRUCTION_PARTS_10 = some ⟨.type "tuple", odINSTRUCTION_PARTS_10, .seq itsINSTRUCTION_PARTS_10 nINSTRUCTION_PARTS_10, slINSTRUCTION_PARTS_10⟩)
    (mINSTRUCTION_PARTS_10 : itsINSTRUCTION_PARTS_10.size ≤ sizeLine)
    (vINSTRUCTION_PARTS_10 : Vals [.str "folding", .str "write", .str "read", .str "number"] itsINSTRUCTION_PARTS_10.toList) :
    ∃ fd : FuncData, (∀ (s : Shared) (v : Value), BindsTo s fd ⟨[v], []⟩ [("script", v)]) ∧ LawRun l.prog w K mg fa fd "script" 63 := by
  have e := hfa.symm.trans (PySem.W.mg_of X G alaw)
  cases e
  let T : Tx w K mg := {
    a_is_between := fis_between,
    d_is_between := _,
    F_is_between := fun_mk (st := s_is_between) lis_between cis_between kis_between,
    b_is_between := (fun_mk (st := s_is_between) lis_between cis_between kis_between).binds (ps := ["value", "least", "most"]) fun _ _ _ _ _ _ us hl => match us, hl with | [_, _, _], _ => rfl,
    g_is_between := PySem.W.mg_of X G ais_between,
    a_is_word := fis_word,
    d_is_word := _,
    F_is_word := fun_mk (st := s_is_word) lis_word cis_word kis_word,
    b_is_word := (fun_mk (st := s_is_word) lis_word cis_word kis_word).binds (ps := ["value"]) fun _ _ _ _ _ _ us hl => match us, hl with | [_], _ => rfl,
    g_is_word := PySem.W.mg_of X G ais_word,
    a_wrapped := fwrapped,
    d_wrapped := _,
    F_wrapped := fun_mk (st := s_wrapped) lwrapped cwrapped kwrapped,
    b_wrapped := (fun_mk (st := s_wrapped) lwrapped cwrapped kwrapped).binds (ps := ["number"]) fun _ _ _ _ _ _ us hl => match us, hl with | [_], _ => rfl,
    g_wrapped := PySem.W.mg_of X G awrapped,
    a_sum_of := fsum_of,
    d_sum_of := _,
    F_sum_of := fun_mk (st := s_sum_of) lsum_of csum_of ksum_of,
    b_sum_of := (fun_mk (st := s_sum_of) lsum_of csum_of ksum_of).binds (ps := ["a", "b"]) fun _ _ _ _ _ _ us hl => match us, hl with | [_, _], _ => rfl,
    g_sum_of := PySem.W.mg_of X G asum_of,
    a_difference := fdifference,
    d_difference := _,
    F_difference := fun_mk (st := s_difference) ldifference cdifference kdifference,
    b_difference := (fun_mk (st := s_difference) ldifference cdifference kdifference).binds (ps := ["a", "b"]) fun _ _ _ _ _ _ us hl => match us, hl with | [_, _], _ => rfl,
    g_difference := PySem.W.mg_of X G adifference,
    a_product_of := fproduct_of,
    d_product_of := _,
    F_product_of := fun_mk (st := s_product_of) lproduct_of cproduct_of kproduct_of,
    b_product_of := (fun_mk (st := s_product_of) lproduct_of cproduct_of kproduct_of).binds (ps := ["a", "b"]) fun _ _ _ _ _ _ us hl => match us, hl with | [_, _], _ => rfl,
    g_product_of := PySem.W.mg_of X G aproduct_of,
    a_quotient := fquotient,
    d_quotient := _,
    F_quotient := fun_mk (st := s_quotient) lquotient cquotient kquotient,
    b_quotient := (fun_mk (st := s_quotient) lquotient cquotient kquotient).binds (ps := ["a", "b"]) fun _ _ _ _ _ _ us hl => match us, hl with | [_, _], _ => rfl,
    g_quotient := PySem.W.mg_of X G aquotient,
    a_remainder := fremainder,
    d_remainder := _,
    F_remainder := fun_mk (st := s_remainder) lremainder cremainder kremainder,
    b_remainder := (fun_mk (st := s_remainder) lremainder cremainder kremainder).binds (ps := ["a", "b"]) fun _ _ _ _ _ _ us hl => match us, hl with | [_, _], _ => rfl,
    g_remainder := PySem.W.mg_of X G aremainder,
    a_bits_of_both := fbits_of_both,
    d_bits_of_both := _,
    F_bits_of_both := fun_mk (st := s_bits_of_both) lbits_of_both cbits_of_both kbits_of_both,
    b_bits_of_both := (fun_mk (st := s_bits_of_both) lbits_of_both cbits_of_both kbits_of_both).binds (ps := ["a", "b"]) fun _ _ _ _ _ _ us hl => match us, hl with | [_, _], _ => rfl,
    g_bits_of_both := PySem.W.mg_of X G abits_of_both,
    a_bits_of_any := fbits_of_any,
    d_bits_of_any := _,
    F_bits_of_any := fun_mk (st := s_bits_of_any) lbits_of_any cbits_of_any kbits_of_any,
    b_bits_of_any := (fun_mk (st := s_bits_of_any) lbits_of_any cbits_of_any kbits_of_any).binds (ps := ["a", "b"]) fun _ _ _ _ _ _ us hl => match us, hl with | [_, _], _ => rfl,
    g_bits_of_any := PySem.W.mg_of X G abits_of_any,
    a_bits_of_one := fbits_of_one,
    d_bits_of_one := _,
    F_bits_of_one := fun_mk (st := s_bits_of_one) lbits_of_one cbits_of_one kbits_of_one,
    b_bits_of_one := (fun_mk (st := s_bits_of_one) lbits_of_one cbits_of_one kbits_of_one).binds (ps := ["a", "b"]) fun _ _ _ _ _ _ us hl => match us, hl with | [_, _], _ => rfl,
    g_bits_of_one := PySem.W.mg_of X G abits_of_one,
    a_shifted_left := fshifted_left,
    d_shifted_left := _,
    F_shifted_left := fun_mk (st := s_shifted_left) lshifted_left cshifted_left kshifted_left,
    b_shifted_left := (fun_mk (st := s_shifted_left) lshifted_left cshifted_left kshifted_left).binds (ps := ["a", "b"]) fun _ _ _ _ _ _ us hl => match us, hl with | [_, _], _ => rfl,
    g_shifted_left := PySem.W.mg_of X G ashifted_left,
    a_shifted_right := fshifted_right,
    d_shifted_right := _,
    F_shifted_right := fun_mk (st := s_shifted_right) lshifted_right cshifted_right kshifted_right,
    b_shifted_right := (fun_mk (st := s_shifted_right) lshifted_right cshifted_right kshifted_right).binds (ps := ["a", "b"]) fun _ _ _ _ _ _ us hl => match us, hl with | [_, _], _ => rfl,
    g_shifted_right := PySem.W.mg_of X G ashifted_right,
    a_is_less := fis_less,
    d_is_less := _,
    F_is_less := fun_mk (st := s_is_less) lis_less cis_less kis_less,
    b_is_less := (fun_mk (st := s_is_less) lis_less cis_less kis_less).binds (ps := ["a", "b"]) fun _ _ _ _ _ _ us hl => match us, hl with | [_, _], _ => rfl,
    g_is_less := PySem.W.mg_of X G ais_less,
    a_is_at_most := fis_at_most,
    d_is_at_most := _,
    F_is_at_most := fun_mk (st := s_is_at_most) lis_at_most cis_at_most kis_at_most,
    b_is_at_most := (fun_mk (st := s_is_at_most) lis_at_most cis_at_most kis_at_most).binds (ps := ["a", "b"]) fun _ _ _ _ _ _ us hl => match us, hl with | [_, _], _ => rfl,
    g_is_at_most := PySem.W.mg_of X G ais_at_most,
    a_is_equal := fis_equal,
    d_is_equal := _,
    F_is_equal := fun_mk (st := s_is_equal) lis_equal cis_equal kis_equal,
    b_is_equal := (fun_mk (st := s_is_equal) lis_equal cis_equal kis_equal).binds (ps := ["a", "b"]) fun _ _ _ _ _ _ us hl => match us, hl with | [_, _], _ => rfl,
    g_is_equal := PySem.W.mg_of X G ais_equal,
    a_is_other := fis_other,
    d_is_other := _,
    F_is_other := fun_mk (st := s_is_other) lis_other cis_other kis_other,
    b_is_other := (fun_mk (st := s_is_other) lis_other cis_other kis_other).binds (ps := ["a", "b"]) fun _ _ _ _ _ _ us hl => match us, hl with | [_, _], _ => rfl,
    g_is_other := PySem.W.mg_of X G ais_other,
    a_lesser := flesser,
    d_lesser := _,
    F_lesser := fun_mk (st := s_lesser) llesser clesser klesser,
    b_lesser := (fun_mk (st := s_lesser) llesser clesser klesser).binds (ps := ["a", "b"]) fun _ _ _ _ _ _ us hl => match us, hl with | [_, _], _ => rfl,
    g_lesser := PySem.W.mg_of X G alesser,
    a_greater := fgreater,
    d_greater := _,
    F_greater := fun_mk (st := s_greater) lgreater cgreater kgreater,
    b_greater := (fun_mk (st := s_greater) lgreater cgreater kgreater).binds (ps := ["a", "b"]) fun _ _ _ _ _ _ us hl => match us, hl with | [_, _], _ => rfl,
    g_greater := PySem.W.mg_of X G agreater,
    a_negative := fnegative,
    d_negative := _,
    F_negative := fun_mk (st := s_negative) lnegative cnegative knegative,
    b_negative := (fun_mk (st := s_negative) lnegative cnegative knegative).binds (ps := ["a"]) fun _ _ _ _ _ _ us hl => match us, hl with | [_], _ => rfl,
    g_negative := PySem.W.mg_of X G anegative,
    a_turned_bits := fturned_bits,
    d_turned_bits := _,
    F_turned_bits := fun_mk (st := s_turned_bits) lturned_bits cturned_bits kturned_bits,
    b_turned_bits := (fun_mk (st := s_turned_bits) lturned_bits cturned_bits kturned_bits).binds (ps := ["a"]) fun _ _ _ _ _ _ us hl => match us, hl with | [_], _ => rfl,
    g_turned_bits := PySem.W.mg_of X G aturned_bits,
    a_is_zero := fis_zero,
    d_is_zero := _,
    F_is_zero := fun_mk (st := s_is_zero) lis_zero cis_zero kis_zero,
    b_is_zero := (fun_mk (st := s_is_zero) lis_zero cis_zero kis_zero).binds (ps := ["a"]) fun _ _ _ _ _ _ us hl => match us, hl with | [_], _ => rfl,
    g_is_zero := PySem.W.mg_of X G ais_zero,
    a_binary := fbinary,
    d_binary := _,
    F_binary := fun_mk (st := s_binary) lbinary cbinary kbinary,
    b_binary := (fun_mk (st := s_binary) lbinary cbinary kbinary).binds (ps := ["op", "a", "b"]) fun _ _ _ _ _ _ us hl => match us, hl with | [_, _, _], _ => rfl,
    g_binary := PySem.W.mg_of X G abinary,
    a_unary := funary,
    d_unary := _,
    F_unary := fun_mk (st := s_unary) lunary cunary kunary,
    b_unary := (fun_mk (st := s_unary) lunary cunary kunary).binds (ps := ["op", "a"]) fun _ _ _ _ _ _ us hl => match us, hl with | [_, _], _ => rfl,
    g_unary := PySem.W.mg_of X G aunary,
    a_special := fspecial,
    d_special := _,
    F_special := fun_mk (st := s_special) lspecial cspecial kspecial,
    b_special := (fun_mk (st := s_special) lspecial cspecial kspecial).binds (ps := ["launch", "thread", "word"]) fun _ _ _ _ _ _ us hl => match us, hl with | [_, _, _], _ => rfl,
    g_special := PySem.W.mg_of X G aspecial,
    a_asked_by := fasked_by,
    d_asked_by := _,
    F_asked_by := fun_mk (st := s_asked_by) lasked_by casked_by kasked_by,
    b_asked_by := (fun_mk (st := s_asked_by) lasked_by casked_by kasked_by).binds (ps := ["instruction", "registers"]) fun _ _ _ _ _ _ us hl => match us, hl with | [_, _], _ => rfl,
    g_asked_by := PySem.W.mg_of X G aasked_by,
    a_made_by := fmade_by,
    d_made_by := _,
    F_made_by := fun_mk (st := s_made_by) lmade_by cmade_by kmade_by,
    b_made_by := (fun_mk (st := s_made_by) lmade_by cmade_by kmade_by).binds (ps := ["instruction", "registers", "launch", "thread", "word"]) fun _ _ _ _ _ _ us hl => match us, hl with | [_, _, _, _, _], _ => rfl,
    g_made_by := PySem.W.mg_of X G amade_by,
    a_written := fwritten,
    d_written := _,
    F_written := fun_mk (st := s_written) lwritten cwritten kwritten,
    b_written := (fun_mk (st := s_written) lwritten cwritten kwritten).binds (ps := ["instruction"]) fun _ _ _ _ _ _ us hl => match us, hl with | [_], _ => rfl,
    g_written := PySem.W.mg_of X G awritten,
    a_first_lane := ffirst_lane,
    d_first_lane := _,
    F_first_lane := fun_mk (st := s_first_lane) lfirst_lane cfirst_lane kfirst_lane,
    b_first_lane := (fun_mk (st := s_first_lane) lfirst_lane cfirst_lane kfirst_lane).binds (ps := ["code"]) fun _ _ _ _ _ _ us hl => match us, hl with | [_], _ => rfl,
    g_first_lane := PySem.W.mg_of X G afirst_lane,
    a_request := frequest,
    d_request := _,
    F_request := fun_mk (st := s_request) lrequest crequest krequest,
    b_request := (fun_mk (st := s_request) lrequest crequest krequest).binds (ps := ["code", "lane"]) fun _ _ _ _ _ _ us hl => match us, hl with | [_, _], _ => rfl,
    g_request := PySem.W.mg_of X G arequest,
    a_with_word := fwith_word,
    d_with_word := _,
    F_with_word := fun_mk (st := s_with_word) lwith_word cwith_word kwith_word,
    b_with_word := (fun_mk (st := s_with_word) lwith_word cwith_word kwith_word).binds (ps := ["words", "index", "word"]) fun _ _ _ _ _ _ us hl => match us, hl with | [_, _, _], _ => rfl,
    g_with_word := PySem.W.mg_of X G awith_word,
    a_next_index := fnext_index,
    d_next_index := _,
    F_next_index := fun_mk (st := s_next_index) lnext_index cnext_index knext_index,
    b_next_index := (fun_mk (st := s_next_index) lnext_index cnext_index knext_index).binds (ps := ["instruction", "at", "registers"]) fun _ _ _ _ _ _ us hl => match us, hl with | [_, _, _], _ => rfl,
    g_next_index := PySem.W.mg_of X G anext_index,
    a_behind := fbehind,
    d_behind := _,
    F_behind := fun_mk (st := s_behind) lbehind cbehind kbehind,
    b_behind := (fun_mk (st := s_behind) lbehind cbehind kbehind).binds (ps := ["code", "launch", "thread", "lane", "word"]) fun _ _ _ _ _ _ us hl => match us, hl with | [_, _, _, _, _], _ => rfl,
    g_behind := PySem.W.mg_of X G abehind,
    a_is_tuple := fis_tuple,
    d_is_tuple := _,
    F_is_tuple := fun_mk (st := s_is_tuple) lis_tuple cis_tuple kis_tuple,
    b_is_tuple := (fun_mk (st := s_is_tuple) lis_tuple cis_tuple kis_tuple).binds (ps := ["value", "least", "most"]) fun _ _ _ _ _ _ us hl => match us, hl with | [_, _, _], _ => rfl,
    g_is_tuple := PySem.W.mg_of X G ais_tuple,
    a_is_name := fis_name,
    d_is_name := _,
    F_is_name := fun_mk (st := s_is_name) lis_name cis_name kis_name,
    b_is_name := (fun_mk (st := s_is_name) lis_name cis_name kis_name).binds (ps := ["value"]) fun _ _ _ _ _ _ us hl => match us, hl with | [_], _ => rfl,
    g_is_name := PySem.W.mg_of X G ais_name,
    a_is_param := fis_param,
    d_is_param := _,
    F_is_param := fun_mk (st := s_is_param) lis_param cis_param kis_param,
    b_is_param := (fun_mk (st := s_is_param) lis_param cis_param kis_param).binds (ps := ["value"]) fun _ _ _ _ _ _ us hl => match us, hl with | [_], _ => rfl,
    g_is_param := PySem.W.mg_of X G ais_param,
    a_is_shared_array := fis_shared_array,
    d_is_shared_array := _,
    F_is_shared_array := fun_mk (st := s_is_shared_array) lis_shared_array cis_shared_array kis_shared_array,
    b_is_shared_array := (fun_mk (st := s_is_shared_array) lis_shared_array cis_shared_array kis_shared_array).binds (ps := ["value"]) fun _ _ _ _ _ _ us hl => match us, hl with | [_], _ => rfl,
    g_is_shared_array := PySem.W.mg_of X G ais_shared_array,
    a_is_head := fis_head,
    d_is_head := _,
    F_is_head := fun_mk (st := s_is_head) lis_head cis_head kis_head,
    b_is_head := (fun_mk (st := s_is_head) lis_head cis_head kis_head).binds (ps := ["params", "shared"]) fun _ _ _ _ _ _ us hl => match us, hl with | [_, _], _ => rfl,
    g_is_head := PySem.W.mg_of X G ais_head,
    a_first_word := ffirst_word,
    d_first_word := _,
    F_first_word := fun_mk (st := s_first_word) lfirst_word cfirst_word kfirst_word,
    b_first_word := (fun_mk (st := s_first_word) lfirst_word cfirst_word kfirst_word).binds (ps := ["value"]) fun _ _ _ _ _ _ us hl => match us, hl with | [_], _ => rfl,
    g_first_word := PySem.W.mg_of X G afirst_word,
    a_is_choice := fis_choice,
    d_is_choice := _,
    F_is_choice := fun_mk (st := s_is_choice) lis_choice cis_choice kis_choice,
    b_is_choice := (fun_mk (st := s_is_choice) lis_choice cis_choice kis_choice).binds (ps := ["sort", "value"]) fun _ _ _ _ _ _ us hl => match us, hl with | [_, _], _ => rfl,
    g_is_choice := PySem.W.mg_of X G ais_choice,
    a_is_array := fis_array,
    d_is_array := _,
    F_is_array := fun_mk (st := s_is_array) lis_array cis_array kis_array,
    b_is_array := (fun_mk (st := s_is_array) lis_array cis_array kis_array).binds (ps := ["params", "shared", "value"]) fun _ _ _ _ _ _ us hl => match us, hl with | [_, _, _], _ => rfl,
    g_is_array := PySem.W.mg_of X G ais_array,
    a_is_int_param := fis_int_param,
    d_is_int_param := _,
    F_is_int_param := fun_mk (st := s_is_int_param) lis_int_param cis_int_param kis_int_param,
    b_is_int_param := (fun_mk (st := s_is_int_param) lis_int_param cis_int_param kis_int_param).binds (ps := ["params", "value"]) fun _ _ _ _ _ _ us hl => match us, hl with | [_, _], _ => rfl,
    g_is_int_param := PySem.W.mg_of X G ais_int_param,
    a_is_common_part := fis_common_part,
    d_is_common_part := _,
    F_is_common_part := fun_mk (st := s_is_common_part) lis_common_part cis_common_part kis_common_part,
    b_is_common_part := (fun_mk (st := s_is_common_part) lis_common_part cis_common_part kis_common_part).binds (ps := ["params", "shared", "sort", "value"]) fun _ _ _ _ _ _ us hl => match us, hl with | [_, _, _, _], _ => rfl,
    g_is_common_part := PySem.W.mg_of X G ais_common_part,
    a_is_code_part := fis_code_part,
    d_is_code_part := _,
    F_is_code_part := fun_mk (st := s_is_code_part) lis_code_part cis_code_part kis_code_part,
    b_is_code_part := (fun_mk (st := s_is_code_part) lis_code_part cis_code_part kis_code_part).binds (ps := ["code", "sort", "value"]) fun _ _ _ _ _ _ us hl => match us, hl with | [_, _, _], _ => rfl,
    g_is_code_part := PySem.W.mg_of X G ais_code_part,
    a_is_code_instruction := fis_code_instruction,
    d_is_code_instruction := _,
    F_is_code_instruction := fun_mk (st := s_is_code_instruction) lis_code_instruction cis_code_instruction kis_code_instruction,
    b_is_code_instruction := (fun_mk (st := s_is_code_instruction) lis_code_instruction cis_code_instruction kis_code_instruction).binds (ps := ["code", "value"]) fun _ _ _ _ _ _ us hl => match us, hl with | [_, _], _ => rfl,
    g_is_code_instruction := PySem.W.mg_of X G ais_code_instruction,
    a_is_code := fis_code,
    d_is_code := _,
    F_is_code := fun_mk (st := s_is_code) lis_code cis_code kis_code,
    b_is_code := (fun_mk (st := s_is_code) lis_code cis_code kis_code).binds (ps := ["value"]) fun _ _ _ _ _ _ us hl => match us, hl with | [_], _ => rfl,
    g_is_code := PySem.W.mg_of X G ais_code,
    a_check_code := fcheck_code,
    d_check_code := _,
    F_check_code := fun_mk (st := s_check_code) lcheck_code ccheck_code kcheck_code,
    b_check_code := (fun_mk (st := s_check_code) lcheck_code ccheck_code kcheck_code).binds (ps := ["value"]) fun _ _ _ _ _ _ us hl => match us, hl with | [_], _ => rfl,
    g_check_code := PySem.W.mg_of X G acheck_code,
    a_law_stream := flaw_stream,
    d_law_stream := _,
    F_law_stream := fun_mk (st := s_law_stream) llaw_stream claw_stream klaw_stream,
    b_law_stream := (fun_mk (st := s_law_stream) llaw_stream claw_stream klaw_stream).binds (ps := ["script"]) fun _ _ _ _ _ _ us hl => match us, hl with | [_], _ => rfl,
    g_law_stream := PySem.W.mg_of X G alaw_stream,
    a_law_draw := flaw_draw,
    d_law_draw := _,
    F_law_draw := fun_mk (st := s_law_draw) llaw_draw claw_draw klaw_draw,
    b_law_draw := (fun_mk (st := s_law_draw) llaw_draw claw_draw klaw_draw).binds (ps := ["stream", "many"]) fun _ _ _ _ _ _ us hl => match us, hl with | [_, _], _ => rfl,
    g_law_draw := PySem.W.mg_of X G alaw_draw,
    a_law_word := flaw_word,
    d_law_word := _,
    F_law_word := fun_mk (st := s_law_word) llaw_word claw_word klaw_word,
    b_law_word := (fun_mk (st := s_law_word) llaw_word claw_word klaw_word).binds (ps := ["stream"]) fun _ _ _ _ _ _ us hl => match us, hl with | [_], _ => rfl,
    g_law_word := PySem.W.mg_of X G alaw_word,
    a_law_wrapped := flaw_wrapped,
    d_law_wrapped := _,
    F_law_wrapped := fun_mk (st := s_law_wrapped) llaw_wrapped claw_wrapped klaw_wrapped,
    b_law_wrapped := (fun_mk (st := s_law_wrapped) llaw_wrapped claw_wrapped klaw_wrapped).binds (ps := ["number"]) fun _ _ _ _ _ _ us hl => match us, hl with | [_], _ => rfl,
    g_law_wrapped := PySem.W.mg_of X G alaw_wrapped,
    a_law_bits := flaw_bits,
    d_law_bits := _,
    F_law_bits := fun_mk (st := s_law_bits) llaw_bits claw_bits klaw_bits,
    b_law_bits := (fun_mk (st := s_law_bits) llaw_bits claw_bits klaw_bits).binds (ps := ["op", "a", "b"]) fun _ _ _ _ _ _ us hl => match us, hl with | [_, _, _], _ => rfl,
    g_law_bits := PySem.W.mg_of X G alaw_bits,
    a_law_shifted := flaw_shifted,
    d_law_shifted := _,
    F_law_shifted := fun_mk (st := s_law_shifted) llaw_shifted claw_shifted klaw_shifted,
    b_law_shifted := (fun_mk (st := s_law_shifted) llaw_shifted claw_shifted klaw_shifted).binds (ps := ["op", "a", "b"]) fun _ _ _ _ _ _ us hl => match us, hl with | [_, _, _], _ => rfl,
    g_law_shifted := PySem.W.mg_of X G alaw_shifted,
    a_law_binary := flaw_binary,
    d_law_binary := _,
    F_law_binary := fun_mk (st := s_law_binary) llaw_binary claw_binary klaw_binary,
    b_law_binary := (fun_mk (st := s_law_binary) llaw_binary claw_binary klaw_binary).binds (ps := ["op", "a", "b"]) fun _ _ _ _ _ _ us hl => match us, hl with | [_, _, _], _ => rfl,
    g_law_binary := PySem.W.mg_of X G alaw_binary,
    a_law_unary := flaw_unary,
    d_law_unary := _,
    F_law_unary := fun_mk (st := s_law_unary) llaw_unary claw_unary klaw_unary,
    b_law_unary := (fun_mk (st := s_law_unary) llaw_unary claw_unary klaw_unary).binds (ps := ["op", "a"]) fun _ _ _ _ _ _ us hl => match us, hl with | [_, _], _ => rfl,
    g_law_unary := PySem.W.mg_of X G alaw_unary,
    a_law_register := flaw_register,
    d_law_register := _,
    F_law_register := fun_mk (st := s_law_register) llaw_register claw_register klaw_register,
    b_law_register := (fun_mk (st := s_law_register) llaw_register claw_register klaw_register).binds (ps := ["stream"]) fun _ _ _ _ _ _ us hl => match us, hl with | [_], _ => rfl,
    g_law_register := PySem.W.mg_of X G alaw_register,
    a_law_plain_instruction := flaw_plain_instruction,
    d_law_plain_instruction := _,
    F_law_plain_instruction := fun_mk (st := s_law_plain_instruction) llaw_plain_instruction claw_plain_instruction klaw_plain_instruction,
    b_law_plain_instruction := (fun_mk (st := s_law_plain_instruction) llaw_plain_instruction claw_plain_instruction klaw_plain_instruction).binds (ps := ["stream", "local"]) fun _ _ _ _ _ _ us hl => match us, hl with | [_, _], _ => rfl,
    g_law_plain_instruction := PySem.W.mg_of X G alaw_plain_instruction,
    a_law_instruction := flaw_instruction,
    d_law_instruction := _,
    F_law_instruction := fun_mk (st := s_law_instruction) llaw_instruction claw_instruction klaw_instruction,
    b_law_instruction := (fun_mk (st := s_law_instruction) llaw_instruction claw_instruction klaw_instruction).binds (ps := ["stream", "many", "local"]) fun _ _ _ _ _ _ us hl => match us, hl with | [_, _, _], _ => rfl,
    g_law_instruction := PySem.W.mg_of X G alaw_instruction,
    a_law_code := flaw_code,
    d_law_code := _,
    F_law_code := fun_mk (st := s_law_code) llaw_code claw_code klaw_code,
    b_law_code := (fun_mk (st := s_law_code) llaw_code claw_code klaw_code).binds (ps := ["stream"]) fun _ _ _ _ _ _ us hl => match us, hl with | [_], _ => rfl,
    g_law_code := PySem.W.mg_of X G alaw_code,
    a_law_started := flaw_started,
    d_law_started := _,
    F_law_started := fun_mk (st := s_law_started) llaw_started claw_started klaw_started,
    b_law_started := (fun_mk (st := s_law_started) llaw_started claw_started klaw_started).binds (ps := ["stream"]) fun _ _ _ _ _ _ us hl => match us, hl with | [_], _ => rfl,
    g_law_started := PySem.W.mg_of X G alaw_started,
    a_law_first := flaw_first,
    d_law_first := _,
    F_law_first := fun_mk (st := s_law_first) llaw_first claw_first klaw_first,
    b_law_first := (fun_mk (st := s_law_first) llaw_first claw_first klaw_first).binds (ps := ["code"]) fun _ _ _ _ _ _ us hl => match us, hl with | [_], _ => rfl,
    g_law_first := PySem.W.mg_of X G alaw_first,
    a_law_request := flaw_request,
    d_law_request := _,
    F_law_request := fun_mk (st := s_law_request) llaw_request claw_request klaw_request,
    b_law_request := (fun_mk (st := s_law_request) llaw_request claw_request klaw_request).binds (ps := ["code", "lane"]) fun _ _ _ _ _ _ us hl => match us, hl with | [_, _], _ => rfl,
    g_law_request := PySem.W.mg_of X G alaw_request,
    a_law_written := flaw_written,
    d_law_written := _,
    F_law_written := fun_mk (st := s_law_written) llaw_written claw_written klaw_written,
    b_law_written := (fun_mk (st := s_law_written) llaw_written claw_written klaw_written).binds (ps := ["row", "lane", "launch", "thread", "word"]) fun _ _ _ _ _ _ us hl => match us, hl with | [_, _, _, _, _], _ => rfl,
    g_law_written := PySem.W.mg_of X G alaw_written,
    a_law_behind := flaw_behind,
    d_law_behind := _,
    F_law_behind := fun_mk (st := s_law_behind) llaw_behind claw_behind klaw_behind,
    b_law_behind := (fun_mk (st := s_law_behind) llaw_behind claw_behind klaw_behind).binds (ps := ["code", "launch", "thread", "lane", "word"]) fun _ _ _ _ _ _ us hl => match us, hl with | [_, _, _, _, _], _ => rfl,
    g_law_behind := PySem.W.mg_of X G alaw_behind,
    a_law := fa,
    d_law := _,
    F_law := fun_mk (st := s_law) llaw claw klaw,
    g_law := PySem.W.mg_of X G alaw,
    c_DrawloomError := CDrawloomError,
    g_DrawloomError := PySem.W.mg_of X G aCDrawloomError,
    x_DrawloomError := xCDrawloomError,
    k_DrawloomError := kCDrawloomError,
    bx_DrawloomError := bCDrawloomError,
    ty_DrawloomError := tCDrawloomError,
    hd_DrawloomError := dCDrawloomError,
    me_DrawloomError := mCDrawloomError,
    ec_DrawloomError := ⟨e1DrawloomError, e2DrawloomError, bCDrawloomError, dCDrawloomError, e5DrawloomError, e6DrawloomError, e7DrawloomError, e8DrawloomError⟩,
    kv_DrawloomError := vDrawloomError,
    c_BadCode := CBadCode,
    g_BadCode := PySem.W.mg_of X G aCBadCode,
    x_BadCode := xCBadCode,
    k_BadCode := kCBadCode,
    bx_BadCode := bCBadCode,
    ty_BadCode := tCBadCode,
    hd_BadCode := dCBadCode,
    me_BadCode := mCBadCode,
    ec_BadCode := ⟨e1BadCode, e2BadCode, bCBadCode, dCBadCode, e5BadCode, e6BadCode, e7BadCode, e8BadCode⟩,
    kv_BadCode := vBadCode,
    kk_BadCode_DrawloomError := kkBadCodeDrawloomError,
    z_abs := PySem.W.mg_none_of X G zabs,
    z_all := PySem.W.mg_none_of X G zall,
    z_any := PySem.W.mg_none_of X G zany,
    z_bool := PySem.W.mg_none_of X G zbool,
    z_enumerate := PySem.W.mg_none_of X G zenumerate,
    z_int := PySem.W.mg_none_of X G zint,
    z_isinstance := PySem.W.mg_none_of X G zisinstance,
    z_len := PySem.W.mg_none_of X G zlen,
    z_list := PySem.W.mg_none_of X G zlist,
    z_max := PySem.W.mg_none_of X G zmax,
    z_min := PySem.W.mg_none_of X G zmin,
    z_range := PySem.W.mg_none_of X G zrange,
    z_repr := PySem.W.mg_none_of X G zrepr,
    z_set := PySem.W.mg_none_of X G zset,
    z_sorted := PySem.W.mg_none_of X G zsorted,
    z_str := PySem.W.mg_none_of X G zstr,
    z_tuple := PySem.W.mg_none_of X G ztuple,
    z_zip := PySem.W.mg_none_of X G zzip,
    q_LEAST := ⟨_, PySem.W.mg_of X G iLEAST, ⟨_, rfl⟩⟩,
    q_NO_REGISTER := ⟨_, PySem.W.mg_of X G iNO_REGISTER, ⟨_, rfl⟩⟩,
    q_MANY_REGISTERS := ⟨_, PySem.W.mg_of X G iMANY_REGISTERS, ⟨_, rfl⟩⟩,
    a_BINARY_ACTIONS := pBINARY_ACTIONS,
    q_BINARY_ACTIONS := ⟨_, PySem.W.mg_of X G aBINARY_ACTIONS, rfl⟩,
    k_BINARY_ACTIONS_add := ⟨_, _, _, lBINARY_ACTIONS, vBINARY_ACTIONS, eBINARY_ACTIONS_add, rfl⟩,
    k_BINARY_ACTIONS_sub := ⟨_, _, _, lBINARY_ACTIONS, vBINARY_ACTIONS, eBINARY_ACTIONS_sub, rfl⟩,
    k_BINARY_ACTIONS_mul := ⟨_, _, _, lBINARY_ACTIONS, vBINARY_ACTIONS, eBINARY_ACTIONS_mul, rfl⟩,
    k_BINARY_ACTIONS_div := ⟨_, _, _, lBINARY_ACTIONS, vBINARY_ACTIONS, eBINARY_ACTIONS_div, rfl⟩,
    k_BINARY_ACTIONS_rem := ⟨_, _, _, lBINARY_ACTIONS, vBINARY_ACTIONS, eBINARY_ACTIONS_rem, rfl⟩,
    k_BINARY_ACTIONS_and := ⟨_, _, _, lBINARY_ACTIONS, vBINARY_ACTIONS, eBINARY_ACTIONS_and, rfl⟩,
    k_BINARY_ACTIONS_or := ⟨_, _, _, lBINARY_ACTIONS, vBINARY_ACTIONS, eBINARY_ACTIONS_or, rfl⟩,
    k_BINARY_ACTIONS_xor := ⟨_, _, _, lBINARY_ACTIONS, vBINARY_ACTIONS, eBINARY_ACTIONS_xor, rfl⟩,
    k_BINARY_ACTIONS_shl := ⟨_, _, _, lBINARY_ACTIONS, vBINARY_ACTIONS, eBINARY_ACTIONS_shl, rfl⟩,
    k_BINARY_ACTIONS_shr := ⟨_, _, _, lBINARY_ACTIONS, vBINARY_ACTIONS, eBINARY_ACTIONS_shr, rfl⟩,
    k_BINARY_ACTIONS_lt := ⟨_, _, _, lBINARY_ACTIONS, vBINARY_ACTIONS, eBINARY_ACTIONS_lt, rfl⟩,
    k_BINARY_ACTIONS_le := ⟨_, _, _, lBINARY_ACTIONS, vBINARY_ACTIONS, eBINARY_ACTIONS_le, rfl⟩,
    k_BINARY_ACTIONS_eq := ⟨_, _, _, lBINARY_ACTIONS, vBINARY_ACTIONS, eBINARY_ACTIONS_eq, rfl⟩,
    k_BINARY_ACTIONS_ne := ⟨_, _, _, lBINARY_ACTIONS, vBINARY_ACTIONS, eBINARY_ACTIONS_ne, rfl⟩,
    k_BINARY_ACTIONS_min := ⟨_, _, _, lBINARY_ACTIONS, vBINARY_ACTIONS, eBINARY_ACTIONS_min, rfl⟩,
    k_BINARY_ACTIONS_max := ⟨_, _, _, lBINARY_ACTIONS, vBINARY_ACTIONS, eBINARY_ACTIONS_max, rfl⟩,
    a_UNARY_ACTIONS := pUNARY_ACTIONS,
    q_UNARY_ACTIONS := ⟨_, PySem.W.mg_of X G aUNARY_ACTIONS, rfl⟩,
    k_UNARY_ACTIONS_neg := ⟨_, _, _, lUNARY_ACTIONS, vUNARY_ACTIONS, eUNARY_ACTIONS_neg, rfl⟩,
    k_UNARY_ACTIONS_not := ⟨_, _, _, lUNARY_ACTIONS, vUNARY_ACTIONS, eUNARY_ACTIONS_not, rfl⟩,
    k_UNARY_ACTIONS_zero := ⟨_, _, _, lUNARY_ACTIONS, vUNARY_ACTIONS, eUNARY_ACTIONS_zero, rfl⟩,
    a_WRITTEN_AT := pWRITTEN_AT,
    q_WRITTEN_AT := ⟨_, PySem.W.mg_of X G aWRITTEN_AT, rfl⟩,
    w_WRITTEN_AT := ⟨esWRITTEN_AT, nWRITTEN_AT, lWRITTEN_AT, vWRITTEN_AT, sWRITTEN_AT, rWRITTEN_AT⟩,
    a_NO_REQUEST := pNO_REQUEST,
    q_NO_REQUEST := ⟨_, PySem.W.mg_of X G aNO_REQUEST, rfl⟩,
    t_NO_REQUEST := ⟨_, itsNO_REQUEST, nNO_REQUEST, lNO_REQUEST, rfl, rfl, mNO_REQUEST, vNO_REQUEST⟩,
    q_GREATEST := ⟨_, PySem.W.mg_of X G iGREATEST, ⟨_, rfl⟩⟩,
    q_FIRST_SHARED := ⟨_, PySem.W.mg_of X G iFIRST_SHARED, ⟨_, rfl⟩⟩,
    q_MOST_NUMBER := ⟨_, PySem.W.mg_of X G iMOST_NUMBER, ⟨_, rfl⟩⟩,
    q_MOST_CELLS := ⟨_, PySem.W.mg_of X G iMOST_CELLS, ⟨_, rfl⟩⟩,
    q_MOST_INSTRUCTIONS := ⟨_, PySem.W.mg_of X G iMOST_INSTRUCTIONS, ⟨_, rfl⟩⟩,
    q_MOST_LETTERS := ⟨_, PySem.W.mg_of X G iMOST_LETTERS, ⟨_, rfl⟩⟩,
    q_MOST_PARAMS := ⟨_, PySem.W.mg_of X G iMOST_PARAMS, ⟨_, rfl⟩⟩,
    q_MOST_SHARED := ⟨_, PySem.W.mg_of X G iMOST_SHARED, ⟨_, rfl⟩⟩,
    q_MOST_SHARED_CELLS := ⟨_, PySem.W.mg_of X G iMOST_SHARED_CELLS, ⟨_, rfl⟩⟩,
    q_LETTERS := ⟨_, PySem.W.mg_of X G iLETTERS, ⟨_, rfl⟩⟩,
    q_DIGITS := ⟨_, PySem.W.mg_of X G iDIGITS, ⟨_, rfl⟩⟩,
    a_SPECIALS := pSPECIALS,
    q_SPECIALS := ⟨_, PySem.W.mg_of X G aSPECIALS, rfl⟩,
    t_SPECIALS := ⟨_, itsSPECIALS, nSPECIALS, lSPECIALS, rfl, rfl, mSPECIALS, vSPECIALS⟩,
    a_UNARY := pUNARY,
    q_UNARY := ⟨_, PySem.W.mg_of X G aUNARY, rfl⟩,
    t_UNARY := ⟨_, itsUNARY, nUNARY, lUNARY, rfl, rfl, mUNARY, vUNARY⟩,
    a_FOLDING := pFOLDING,
    q_FOLDING := ⟨_, PySem.W.mg_of X G aFOLDING, rfl⟩,
    t_FOLDING := ⟨_, itsFOLDING, nFOLDING, lFOLDING, rfl, rfl, mFOLDING, vFOLDING⟩,
    a_BINARY := pBINARY,
    q_BINARY := ⟨_, PySem.W.mg_of X G aBINARY, rfl⟩,
    t_BINARY := ⟨_, itsBINARY, nBINARY, lBINARY, rfl, rfl, mBINARY, vBINARY⟩,
    a_CODE_PARTS := pCODE_PARTS,
    q_CODE_PARTS := ⟨_, PySem.W.mg_of X G aCODE_PARTS, rfl⟩,
    w_CODE_PARTS := ⟨esCODE_PARTS, nCODE_PARTS, lCODE_PARTS, vCODE_PARTS, sCODE_PARTS, rCODE_PARTS⟩,
    p_CODE_PARTS_0 := qCODE_PARTS_0,
    t_CODE_PARTS_0 := ⟨_, itsCODE_PARTS_0, nCODE_PARTS_0, lCODE_PARTS_0, rfl, rfl, mCODE_PARTS_0, vCODE_PARTS_0⟩,
    p_CODE_PARTS_1 := qCODE_PARTS_1,
    t_CODE_PARTS_1 := ⟨_, itsCODE_PARTS_1, nCODE_PARTS_1, lCODE_PARTS_1, rfl, rfl, mCODE_PARTS_1, vCODE_PARTS_1⟩,
    p_CODE_PARTS_2 := qCODE_PARTS_2,
    t_CODE_PARTS_2 := ⟨_, itsCODE_PARTS_2, nCODE_PARTS_2, lCODE_PARTS_2, rfl, rfl, mCODE_PARTS_2, vCODE_PARTS_2⟩,
    p_CODE_PARTS_3 := qCODE_PARTS_3,
    t_CODE_PARTS_3 := ⟨_, itsCODE_PARTS_3, nCODE_PARTS_3, lCODE_PARTS_3, rfl, rfl, mCODE_PARTS_3, vCODE_PARTS_3⟩,
    p_CODE_PARTS_4 := qCODE_PARTS_4,
    t_CODE_PARTS_4 := ⟨_, itsCODE_PARTS_4, nCODE_PARTS_4, lCODE_PARTS_4, rfl, rfl, mCODE_PARTS_4, vCODE_PARTS_4⟩,
    a_INSTRUCTION_PARTS := pINSTRUCTION_PARTS,
    q_INSTRUCTION_PARTS := ⟨_, PySem.W.mg_of X G aINSTRUCTION_PARTS, rfl⟩,
    w_INSTRUCTION_PARTS := ⟨esINSTRUCTION_PARTS, nINSTRUCTION_PARTS, lINSTRUCTION_PARTS, vINSTRUCTION_PARTS, sINSTRUCTION_PARTS, rINSTRUCTION_PARTS⟩,
    p_INSTRUCTION_PARTS_0 := qINSTRUCTION_PARTS_0,
    t_INSTRUCTION_PARTS_0 := ⟨_, itsINSTRUCTION_PARTS_0, nINSTRUCTION_PARTS_0, lINSTRUCTION_PARTS_0, rfl, rfl, mINSTRUCTION_PARTS_0, vINSTRUCTION_PARTS_0⟩,
    p_INSTRUCTION_PARTS_1 := qINSTRUCTION_PARTS_1,
    t_INSTRUCTION_PARTS_1 := ⟨_, itsINSTRUCTION_PARTS_1, nINSTRUCTION_PARTS_1, lINSTRUCTION_PARTS_1, rfl, rfl, mINSTRUCTION_PARTS_1, vINSTRUCTION_PARTS_1⟩,
    p_INSTRUCTION_PARTS_2 := qINSTRUCTION_PARTS_2,
    t_INSTRUCTION_PARTS_2 := ⟨_, itsINSTRUCTION_PARTS_2, nINSTRUCTION_PARTS_2, lINSTRUCTION_PARTS_2, rfl, rfl, mINSTRUCTION_PARTS_2, vINSTRUCTION_PARTS_2⟩,
    p_INSTRUCTION_PARTS_3 := qINSTRUCTION_PARTS_3,
    t_INSTRUCTION_PARTS_3 := ⟨_, itsINSTRUCTION_PARTS_3, nINSTRUCTION_PARTS_3, lINSTRUCTION_PARTS_3, rfl, rfl, mINSTRUCTION_PARTS_3, vINSTRUCTION_PARTS_3⟩,
    p_INSTRUCTION_PARTS_4 := qINSTRUCTION_PARTS_4,
    t_INSTRUCTION_PARTS_4 := ⟨_, itsINSTRUCTION_PARTS_4, nINSTRUCTION_PARTS_4, lINSTRUCTION_PARTS_4, rfl, rfl, mINSTRUCTION_PARTS_4, vINSTRUCTION_PARTS_4⟩,
    p_INSTRUCTION_PARTS_5 := qINSTRUCTION_PARTS_5,
    t_INSTRUCTION_PARTS_5 := ⟨_, itsINSTRUCTION_PARTS_5, nINSTRUCTION_PARTS_5, lINSTRUCTION_PARTS_5, rfl, rfl, mINSTRUCTION_PARTS_5, vINSTRUCTION_PARTS_5⟩,
    p_INSTRUCTION_PARTS_6 := qINSTRUCTION_PARTS_6,
    t_INSTRUCTION_PARTS_6 := ⟨_, itsINSTRUCTION_PARTS_6, nINSTRUCTION_PARTS_6, lINSTRUCTION_PARTS_6, rfl, rfl, mINSTRUCTION_PARTS_6, vINSTRUCTION_PARTS_6⟩,
    p_INSTRUCTION_PARTS_7 := qINSTRUCTION_PARTS_7,
    t_INSTRUCTION_PARTS_7 := ⟨_, itsINSTRUCTION_PARTS_7, nINSTRUCTION_PARTS_7, lINSTRUCTION_PARTS_7, rfl, rfl, mINSTRUCTION_PARTS_7, vINSTRUCTION_PARTS_7⟩,
    p_INSTRUCTION_PARTS_8 := qINSTRUCTION_PARTS_8,
    t_INSTRUCTION_PARTS_8 := ⟨_, itsINSTRUCTION_PARTS_8, nINSTRUCTION_PARTS_8, lINSTRUCTION_PARTS_8, rfl, rfl, mINSTRUCTION_PARTS_8, vINSTRUCTION_PARTS_8⟩,
    p_INSTRUCTION_PARTS_9 := qINSTRUCTION_PARTS_9,
    t_INSTRUCTION_PARTS_9 := ⟨_, itsINSTRUCTION_PARTS_9, nINSTRUCTION_PARTS_9, lINSTRUCTION_PARTS_9, rfl, rfl, mINSTRUCTION_PARTS_9, vINSTRUCTION_PARTS_9⟩,
    p_INSTRUCTION_PARTS_10 := qINSTRUCTION_PARTS_10,
    t_INSTRUCTION_PARTS_10 := ⟨_, itsINSTRUCTION_PARTS_10, nINSTRUCTION_PARTS_10, lINSTRUCTION_PARTS_10, rfl, rfl, mINSTRUCTION_PARTS_10, vINSTRUCTION_PARTS_10⟩ }
  exact ⟨_, fun s v => .of_eq rfl, ok_law T⟩
end D8
open PySem PySem.W PyProof.Rows
set_option maxRecDepth 100000 in
set_option maxHeartbeats 0 in
theorem PySem.Challenge.cw_drawloom_k61_lanes_holds : PySem.Challenge.rw_drawloom_k61_lanes.Holds := by
  w_on; o_law; k_head; (case hw => w_witness2)
  k_fill
  refine L2.walk_at_place (l := PySem.Challenge.rw_drawloom_k61_lanes) (n := 63) (x := "script") rfl (by decide) rfl (fun w h Y => PySem.W.kIn_of Y) ?F
  case F =>
    intro w mg fa h KX G hmg
    refine' D8.all_mk KX G hmg ?ais_between ?lis_between ?cis_between ?kis_between ?ais_word ?lis_word ?cis_word ?kis_word ?awrapped ?lwrapped ?cwrapped ?kwrapped ?asum_of ?lsum_of ?csum_of ?ksum_of ?adifference ?ldifference ?cdifference ?kdifference ?aproduct_of ?lproduct_of ?cproduct_of ?kproduct_of ?aquotient ?lquotient ?cquotient ?kquotient ?aremainder ?lremainder ?cremainder ?kremainder ?abits_of_both ?lbits_of_both ?cbits_of_both ?kbits_of_both ?abits_of_any ?lbits_of_any ?cbits_of_any ?kbits_of_any ?abits_of_one ?lbits_of_one ?cbits_of_one ?kbits_of_one ?ashifted_left ?lshifted_left ?cshifted_left ?kshifted_left ?ashifted_right ?lshifted_right ?cshifted_right ?kshifted_right ?ais_less ?lis_less ?cis_less ?kis_less ?ais_at_most ?lis_at_most ?cis_at_most ?kis_at_most ?ais_equal ?lis_equal ?cis_equal ?kis_equal ?ais_other ?lis_other ?cis_other ?kis_other ?alesser ?llesser ?clesser ?klesser ?agreater ?lgreater ?cgreater ?kgreater ?anegative ?lnegative ?cnegative ?knegative ?aturned_bits ?lturned_bits ?cturned_bits ?kturned_bits ?ais_zero ?lis_zero ?cis_zero ?kis_zero ?abinary ?lbinary ?cbinary ?kbinary ?aunary ?lunary ?cunary ?kunary ?aspecial ?lspecial ?cspecial ?kspecial ?aasked_by ?lasked_by ?casked_by ?kasked_by ?amade_by ?lmade_by ?cmade_by ?kmade_by ?awritten ?lwritten ?cwritten ?kwritten ?afirst_lane ?lfirst_lane ?cfirst_lane ?kfirst_lane ?arequest ?lrequest ?crequest ?krequest ?awith_word ?lwith_word ?cwith_word ?kwith_word ?anext_index ?lnext_index ?cnext_index ?knext_index ?abehind ?lbehind ?cbehind ?kbehind ?ais_tuple ?lis_tuple ?cis_tuple ?kis_tuple ?ais_name ?lis_name ?cis_name ?kis_name ?ais_param ?lis_param ?cis_param ?kis_param ?ais_shared_array ?lis_shared_array ?cis_shared_array ?kis_shared_array ?ais_head ?lis_head ?cis_head ?kis_head ?afirst_word ?lfirst_word ?cfirst_word ?kfirst_word ?ais_choice ?lis_choice ?cis_choice ?kis_choice ?ais_array ?lis_array ?cis_array ?kis_array ?ais_int_param ?lis_int_param ?cis_int_param ?kis_int_param ?ais_common_part ?lis_common_part ?cis_common_part ?kis_common_part ?ais_code_part ?lis_code_part ?cis_code_part ?kis_code_part ?ais_code_instruction ?lis_code_instruction ?cis_code_instruction ?kis_code_instruction ?ais_code ?lis_code ?cis_code ?kis_code ?acheck_code ?lcheck_code ?ccheck_code ?kcheck_code ?alaw_stream ?llaw_stream ?claw_stream ?klaw_stream ?alaw_draw ?llaw_draw ?claw_draw ?klaw_draw ?alaw_word ?llaw_word ?claw_word ?klaw_word ?alaw_wrapped ?llaw_wrapped ?claw_wrapped ?klaw_wrapped ?alaw_bits ?llaw_bits ?claw_bits ?klaw_bits ?alaw_shifted ?llaw_shifted ?claw_shifted ?klaw_shifted ?alaw_binary ?llaw_binary ?claw_binary ?klaw_binary ?alaw_unary ?llaw_unary ?claw_unary ?klaw_unary ?alaw_register ?llaw_register ?claw_register ?klaw_register ?alaw_plain_instruction ?llaw_plain_instruction ?claw_plain_instruction ?klaw_plain_instruction ?alaw_instruction ?llaw_instruction ?claw_instruction ?klaw_instruction ?alaw_code ?llaw_code ?claw_code ?klaw_code ?alaw_started ?llaw_started ?claw_started ?klaw_started ?alaw_first ?llaw_first ?claw_first ?klaw_first ?alaw_request ?llaw_request ?claw_request ?klaw_request ?alaw_written ?llaw_written ?claw_written ?klaw_written ?alaw_behind ?llaw_behind ?claw_behind ?klaw_behind ?alaw ?llaw ?claw ?klaw ?aCDrawloomError ?xCDrawloomError ?kCDrawloomError ?bCDrawloomError ?tCDrawloomError ?dCDrawloomError ?mCDrawloomError ?e1DrawloomError ?e2DrawloomError ?e5DrawloomError ?e6DrawloomError ?e7DrawloomError ?e8DrawloomError ?vDrawloomError ?aCBadCode ?xCBadCode ?kCBadCode ?bCBadCode ?tCBadCode ?dCBadCode ?mCBadCode ?e1BadCode ?e2BadCode ?e5BadCode ?e6BadCode ?e7BadCode ?e8BadCode ?vBadCode ?kkBadCodeDrawloomError ?zabs ?zall ?zany ?zbool ?zenumerate ?zint ?zisinstance ?zlen ?zlist ?zmax ?zmin ?zrange ?zrepr ?zset ?zsorted ?zstr ?ztuple ?zzip ?iLEAST ?iNO_REGISTER ?iMANY_REGISTERS ?aBINARY_ACTIONS ?lBINARY_ACTIONS ?vBINARY_ACTIONS ?eBINARY_ACTIONS_add ?eBINARY_ACTIONS_sub ?eBINARY_ACTIONS_mul ?eBINARY_ACTIONS_div ?eBINARY_ACTIONS_rem ?eBINARY_ACTIONS_and ?eBINARY_ACTIONS_or ?eBINARY_ACTIONS_xor ?eBINARY_ACTIONS_shl ?eBINARY_ACTIONS_shr ?eBINARY_ACTIONS_lt ?eBINARY_ACTIONS_le ?eBINARY_ACTIONS_eq ?eBINARY_ACTIONS_ne ?eBINARY_ACTIONS_min ?eBINARY_ACTIONS_max ?aUNARY_ACTIONS ?lUNARY_ACTIONS ?vUNARY_ACTIONS ?eUNARY_ACTIONS_neg ?eUNARY_ACTIONS_not ?eUNARY_ACTIONS_zero ?aWRITTEN_AT ?lWRITTEN_AT ?vWRITTEN_AT ?sWRITTEN_AT ?rWRITTEN_AT ?aNO_REQUEST ?lNO_REQUEST ?mNO_REQUEST ?vNO_REQUEST ?iGREATEST ?iFIRST_SHARED ?iMOST_NUMBER ?iMOST_CELLS ?iMOST_INSTRUCTIONS ?iMOST_LETTERS ?iMOST_PARAMS ?iMOST_SHARED ?iMOST_SHARED_CELLS ?iLETTERS ?iDIGITS ?aSPECIALS ?lSPECIALS ?mSPECIALS ?vSPECIALS ?aUNARY ?lUNARY ?mUNARY ?vUNARY ?aFOLDING ?lFOLDING ?mFOLDING ?vFOLDING ?aBINARY ?lBINARY ?mBINARY ?vBINARY ?aCODE_PARTS ?lCODE_PARTS ?vCODE_PARTS ?sCODE_PARTS ?rCODE_PARTS ?lCODE_PARTS_0 ?mCODE_PARTS_0 ?vCODE_PARTS_0 ?lCODE_PARTS_1 ?mCODE_PARTS_1 ?vCODE_PARTS_1 ?lCODE_PARTS_2 ?mCODE_PARTS_2 ?vCODE_PARTS_2 ?lCODE_PARTS_3 ?mCODE_PARTS_3 ?vCODE_PARTS_3 ?lCODE_PARTS_4 ?mCODE_PARTS_4 ?vCODE_PARTS_4 ?aINSTRUCTION_PARTS ?lINSTRUCTION_PARTS ?vINSTRUCTION_PARTS ?sINSTRUCTION_PARTS ?rINSTRUCTION_PARTS ?lINSTRUCTION_PARTS_0 ?mINSTRUCTION_PARTS_0 ?vINSTRUCTION_PARTS_0 ?lINSTRUCTION_PARTS_1 ?mINSTRUCTION_PARTS_1 ?vINSTRUCTION_PARTS_1 ?lINSTRUCTION_PARTS_2 ?mINSTRUCTION_PARTS_2 ?vINSTRUCTION_PARTS_2 ?lINSTRUCTION_PARTS_3 ?mINSTRUCTION_PARTS_3 ?vINSTRUCTION_PARTS_3 ?lINSTRUCTION_PARTS_4 ?mINSTRUCTION_PARTS_4 ?vINSTRUCTION_PARTS_4 ?lINSTRUCTION_PARTS_5 ?mINSTRUCTION_PARTS_5 ?vINSTRUCTION_PARTS_5 ?lINSTRUCTION_PARTS_6 ?mINSTRUCTION_PARTS_6 ?vINSTRUCTION_PARTS_6 ?lINSTRUCTION_PARTS_7 ?mINSTRUCTION_PARTS_7 ?vINSTRUCTION_PARTS_7 ?lINSTRUCTION_PARTS_8 ?mINSTRUCTION_PARTS_8 ?vINSTRUCTION_PARTS_8 ?lINSTRUCTION_PARTS_9 ?mINSTRUCTION_PARTS_9 ?vINSTRUCTION_PARTS_9 ?lINSTRUCTION_PARTS_10 ?mINSTRUCTION_PARTS_10 ?vINSTRUCTION_PARTS_10
    (case ais_between => k_is)
    (case lis_between => k_is)
    (case cis_between => k_is)
    (case kis_between => k_is)
    (case ais_word => k_is)
    (case lis_word => k_is)
    (case cis_word => k_is)
    (case kis_word => k_is)
    (case awrapped => k_is)
    (case lwrapped => k_is)
    (case cwrapped => k_is)
    (case kwrapped => k_is)
    (case asum_of => k_is)
    (case lsum_of => k_is)
    (case csum_of => k_is)
    (case ksum_of => k_is)
    (case adifference => k_is)
    (case ldifference => k_is)
    (case cdifference => k_is)
    (case kdifference => k_is)
    (case aproduct_of => k_is)
    (case lproduct_of => k_is)
    (case cproduct_of => k_is)
    (case kproduct_of => k_is)
    (case aquotient => k_is)
    (case lquotient => k_is)
    (case cquotient => k_is)
    (case kquotient => k_is)
    (case aremainder => k_is)
    (case lremainder => k_is)
    (case cremainder => k_is)
    (case kremainder => k_is)
    (case abits_of_both => k_is)
    (case lbits_of_both => k_is)
    (case cbits_of_both => k_is)
    (case kbits_of_both => k_is)
    (case abits_of_any => k_is)
    (case lbits_of_any => k_is)
    (case cbits_of_any => k_is)
    (case kbits_of_any => k_is)
    (case abits_of_one => k_is)
    (case lbits_of_one => k_is)
    (case cbits_of_one => k_is)
    (case kbits_of_one => k_is)
    (case ashifted_left => k_is)
    (case lshifted_left => k_is)
    (case cshifted_left => k_is)
    (case kshifted_left => k_is)
    (case ashifted_right => k_is)
    (case lshifted_right => k_is)
    (case cshifted_right => k_is)
    (case kshifted_right => k_is)
    (case ais_less => k_is)
    (case lis_less => k_is)
    (case cis_less => k_is)
    (case kis_less => k_is)
    (case ais_at_most => k_is)
    (case lis_at_most => k_is)
    (case cis_at_most => k_is)
    (case kis_at_most => k_is)
    (case ais_equal => k_is)
    (case lis_equal => k_is)
    (case cis_equal => k_is)
    (case kis_equal => k_is)
    (case ais_other => k_is)
    (case lis_other => k_is)
    (case cis_other => k_is)
    (case kis_other => k_is)
    (case alesser => k_is)
    (case llesser => k_is)
    (case clesser => k_is)
    (case klesser => k_is)
    (case agreater => k_is)
    (case lgreater => k_is)
    (case cgreater => k_is)
    (case kgreater => k_is)
    (case anegative => k_is)
    (case lnegative => k_is)
    (case cnegative => k_is)
    (case knegative => k_is)
    (case aturned_bits => k_is)
    (case lturned_bits => k_is)
    (case cturned_bits => k_is)
    (case kturned_bits => k_is)
    (case ais_zero => k_is)
    (case lis_zero => k_is)
    (case cis_zero => k_is)
    (case kis_zero => k_is)
    (case abinary => k_is)
    (case lbinary => k_is)
    (case cbinary => k_is)
    (case kbinary => k_is)
    (case aunary => k_is)
    (case lunary => k_is)
    (case cunary => k_is)
    (case kunary => k_is)
    (case aspecial => k_is)
    (case lspecial => k_is)
    (case cspecial => k_is)
    (case kspecial => k_is)
    (case aasked_by => k_is)
    (case lasked_by => k_is)
    (case casked_by => k_is)
    (case kasked_by => k_is)
    (case amade_by => k_is)
    (case lmade_by => k_is)
    (case cmade_by => k_is)
    (case kmade_by => k_is)
    (case awritten => k_is)
    (case lwritten => k_is)
    (case cwritten => k_is)
    (case kwritten => k_is)
    (case afirst_lane => k_is)
    (case lfirst_lane => k_is)
    (case cfirst_lane => k_is)
    (case kfirst_lane => k_is)
    (case arequest => k_is)
    (case lrequest => k_is)
    (case crequest => k_is)
    (case krequest => k_is)
    (case awith_word => k_is)
    (case lwith_word => k_is)
    (case cwith_word => k_is)
    (case kwith_word => k_is)
    (case anext_index => k_is)
    (case lnext_index => k_is)
    (case cnext_index => k_is)
    (case knext_index => k_is)
    (case abehind => k_is)
    (case lbehind => k_is)
    (case cbehind => k_is)
    (case kbehind => k_is)
    (case ais_tuple => k_is)
    (case lis_tuple => k_is)
    (case cis_tuple => k_is)
    (case kis_tuple => k_is)
    (case ais_name => k_is)
    (case lis_name => k_is)
    (case cis_name => k_is)
    (case kis_name => k_is)
    (case ais_param => k_is)
    (case lis_param => k_is)
    (case cis_param => k_is)
    (case kis_param => k_is)
    (case ais_shared_array => k_is)
    (case lis_shared_array => k_is)
    (case cis_shared_array => k_is)
    (case kis_shared_array => k_is)
    (case ais_head => k_is)
    (case lis_head => k_is)
    (case cis_head => k_is)
    (case kis_head => k_is)
    (case afirst_word => k_is)
    (case lfirst_word => k_is)
    (case cfirst_word => k_is)
    (case kfirst_word => k_is)
    (case ais_choice => k_is)
    (case lis_choice => k_is)
    (case cis_choice => k_is)
    (case kis_choice => k_is)
    (case ais_array => k_is)
    (case lis_array => k_is)
    (case cis_array => k_is)
    (case kis_array => k_is)
    (case ais_int_param => k_is)
    (case lis_int_param => k_is)
    (case cis_int_param => k_is)
    (case kis_int_param => k_is)
    (case ais_common_part => k_is)
    (case lis_common_part => k_is)
    (case cis_common_part => k_is)
    (case kis_common_part => k_is)
    (case ais_code_part => k_is)
    (case lis_code_part => k_is)
    (case cis_code_part => k_is)
    (case kis_code_part => k_is)
    (case ais_code_instruction => k_is)
    (case lis_code_instruction => k_is)
    (case cis_code_instruction => k_is)
    (case kis_code_instruction => k_is)
    (case ais_code => k_is)
    (case lis_code => k_is)
    (case cis_code => k_is)
    (case kis_code => k_is)
    (case acheck_code => k_is)
    (case lcheck_code => k_is)
    (case ccheck_code => k_is)
    (case kcheck_code => k_is)
    (case alaw_stream => k_is)
    (case llaw_stream => k_is)
    (case claw_stream => k_is)
    (case klaw_stream => k_is)
    (case alaw_draw => k_is)
    (case llaw_draw => k_is)
    (case claw_draw => k_is)
    (case klaw_draw => k_is)
    (case alaw_word => k_is)
    (case llaw_word => k_is)
    (case claw_word => k_is)
    (case klaw_word => k_is)
    (case alaw_wrapped => k_is)
    (case llaw_wrapped => k_is)
    (case claw_wrapped => k_is)
    (case klaw_wrapped => k_is)
    (case alaw_bits => k_is)
    (case llaw_bits => k_is)
    (case claw_bits => k_is)
    (case klaw_bits => k_is)
    (case alaw_shifted => k_is)
    (case llaw_shifted => k_is)
    (case claw_shifted => k_is)
    (case klaw_shifted => k_is)
    (case alaw_binary => k_is)
    (case llaw_binary => k_is)
    (case claw_binary => k_is)
    (case klaw_binary => k_is)
    (case alaw_unary => k_is)
    (case llaw_unary => k_is)
    (case claw_unary => k_is)
    (case klaw_unary => k_is)
    (case alaw_register => k_is)
    (case llaw_register => k_is)
    (case claw_register => k_is)
    (case klaw_register => k_is)
    (case alaw_plain_instruction => k_is)
    (case llaw_plain_instruction => k_is)
    (case claw_plain_instruction => k_is)
    (case klaw_plain_instruction => k_is)
    (case alaw_instruction => k_is)
    (case llaw_instruction => k_is)
    (case claw_instruction => k_is)
    (case klaw_instruction => k_is)
    (case alaw_code => k_is)
    (case llaw_code => k_is)
    (case claw_code => k_is)
    (case klaw_code => k_is)
    (case alaw_started => k_is)
    (case llaw_started => k_is)
    (case claw_started => k_is)
    (case klaw_started => k_is)
    (case alaw_first => k_is)
    (case llaw_first => k_is)
    (case claw_first => k_is)
    (case klaw_first => k_is)
    (case alaw_request => k_is)
    (case llaw_request => k_is)
    (case claw_request => k_is)
    (case klaw_request => k_is)
    (case alaw_written => k_is)
    (case llaw_written => k_is)
    (case claw_written => k_is)
    (case klaw_written => k_is)
    (case alaw_behind => k_is)
    (case llaw_behind => k_is)
    (case claw_behind => k_is)
    (case klaw_behind => k_is)
    (case alaw => k_is)
    (case llaw => k_is)
    (case claw => k_is)
    (case klaw => k_is)
    (case aCDrawloomError => k_is)
    (case xCDrawloomError => k_exc)
    (case kCDrawloomError => k_is)
    (case bCDrawloomError => k_is)
    (case tCDrawloomError => k_is)
    (case dCDrawloomError => k_is)
    (case mCDrawloomError => k_is)
    (case e1DrawloomError => k_is)
    (case e2DrawloomError => k_is)
    (case e5DrawloomError => k_is)
    (case e6DrawloomError => k_is)
    (case e7DrawloomError => k_is)
    (case e8DrawloomError => k_is)
    (case vDrawloomError => kit_is)
    (case aCBadCode => k_is)
    (case xCBadCode => k_exc)
    (case kCBadCode => k_is)
    (case bCBadCode => k_is)
    (case tCBadCode => k_is)
    (case dCBadCode => k_is)
    (case mCBadCode => k_is)
    (case e1BadCode => k_is)
    (case e2BadCode => k_is)
    (case e5BadCode => k_is)
    (case e6BadCode => k_is)
    (case e7BadCode => k_is)
    (case e8BadCode => k_is)
    (case vBadCode => kit_is)
    (case kkBadCodeDrawloomError => kit_is)
    (case zabs => k_is)
    (case zall => k_is)
    (case zany => k_is)
    (case zbool => k_is)
    (case zenumerate => k_is)
    (case zint => k_is)
    (case zisinstance => k_is)
    (case zlen => k_is)
    (case zlist => k_is)
    (case zmax => k_is)
    (case zmin => k_is)
    (case zrange => k_is)
    (case zrepr => k_is)
    (case zset => k_is)
    (case zsorted => k_is)
    (case zstr => k_is)
    (case ztuple => k_is)
    (case zzip => k_is)
    (case iLEAST => k_is)
    (case iNO_REGISTER => k_is)
    (case iMANY_REGISTERS => k_is)
    (case aBINARY_ACTIONS => k_is)
    (case lBINARY_ACTIONS => k_is)
    (case vBINARY_ACTIONS => k_keys)
    (case eBINARY_ACTIONS_add => k_is)
    (case eBINARY_ACTIONS_sub => k_is)
    (case eBINARY_ACTIONS_mul => k_is)
    (case eBINARY_ACTIONS_div => k_is)
    (case eBINARY_ACTIONS_rem => k_is)
    (case eBINARY_ACTIONS_and => k_is)
    (case eBINARY_ACTIONS_or => k_is)
    (case eBINARY_ACTIONS_xor => k_is)
    (case eBINARY_ACTIONS_shl => k_is)
    (case eBINARY_ACTIONS_shr => k_is)
    (case eBINARY_ACTIONS_lt => k_is)
    (case eBINARY_ACTIONS_le => k_is)
    (case eBINARY_ACTIONS_eq => k_is)
    (case eBINARY_ACTIONS_ne => k_is)
    (case eBINARY_ACTIONS_min => k_is)
    (case eBINARY_ACTIONS_max => k_is)
    (case aUNARY_ACTIONS => k_is)
    (case lUNARY_ACTIONS => k_is)
    (case vUNARY_ACTIONS => k_keys)
    (case eUNARY_ACTIONS_neg => k_is)
    (case eUNARY_ACTIONS_not => k_is)
    (case eUNARY_ACTIONS_zero => k_is)
    (case aWRITTEN_AT => k_is)
    (case lWRITTEN_AT => k_is)
    (case vWRITTEN_AT => k_keys)
    (case sWRITTEN_AT => decide)
    (case rWRITTEN_AT => exact (by repeat (first | exact trivial | refine ⟨⟨_, rfl⟩, rfl, ?_⟩ | refine ⟨⟨_, rfl⟩, ⟨_, rfl⟩, ?_⟩)))
    (case aNO_REQUEST => k_is)
    (case lNO_REQUEST => k_is)
    (case mNO_REQUEST => exact (by rw [sizeLine_eq]; decide))
    (case vNO_REQUEST => exact by repeat (first | exact .nil | refine .cons ⟨_, rfl⟩ ?_))
    (case iGREATEST => k_is)
    (case iFIRST_SHARED => k_is)
    (case iMOST_NUMBER => k_is)
    (case iMOST_CELLS => k_is)
    (case iMOST_INSTRUCTIONS => k_is)
    (case iMOST_LETTERS => k_is)
    (case iMOST_PARAMS => k_is)
    (case iMOST_SHARED => k_is)
    (case iMOST_SHARED_CELLS => k_is)
    (case iLETTERS => k_is)
    (case iDIGITS => k_is)
    (case aSPECIALS => k_is)
    (case lSPECIALS => k_is)
    (case mSPECIALS => exact (by rw [sizeLine_eq]; decide))
    (case vSPECIALS => exact by repeat (first | exact .nil | refine .cons ⟨_, rfl⟩ ?_))
    (case aUNARY => k_is)
    (case lUNARY => k_is)
    (case mUNARY => exact (by rw [sizeLine_eq]; decide))
    (case vUNARY => exact by repeat (first | exact .nil | refine .cons ⟨_, rfl⟩ ?_))
    (case aFOLDING => k_is)
    (case lFOLDING => k_is)
    (case mFOLDING => exact (by rw [sizeLine_eq]; decide))
    (case vFOLDING => exact by repeat (first | exact .nil | refine .cons ⟨_, rfl⟩ ?_))
    (case aBINARY => k_is)
    (case lBINARY => k_is)
    (case mBINARY => exact (by rw [sizeLine_eq]; decide))
    (case vBINARY => exact by repeat (first | exact .nil | refine .cons ⟨_, rfl⟩ ?_))
    (case aCODE_PARTS => k_is)
    (case lCODE_PARTS => k_is)
    (case vCODE_PARTS => k_keys)
    (case sCODE_PARTS => decide)
    (case rCODE_PARTS => exact (by repeat (first | exact trivial | refine ⟨⟨_, rfl⟩, rfl, ?_⟩ | refine ⟨⟨_, rfl⟩, ⟨_, rfl⟩, ?_⟩)))
    (case lCODE_PARTS_0 => k_is)
    (case mCODE_PARTS_0 => exact (by rw [sizeLine_eq]; decide))
    (case vCODE_PARTS_0 => exact by repeat (first | exact .nil | refine .cons ⟨_, rfl⟩ ?_))
    (case lCODE_PARTS_1 => k_is)
    (case mCODE_PARTS_1 => exact (by rw [sizeLine_eq]; decide))
    (case vCODE_PARTS_1 => exact by repeat (first | exact .nil | refine .cons ⟨_, rfl⟩ ?_))
    (case lCODE_PARTS_2 => k_is)
    (case mCODE_PARTS_2 => exact (by rw [sizeLine_eq]; decide))
    (case vCODE_PARTS_2 => exact by repeat (first | exact .nil | refine .cons ⟨_, rfl⟩ ?_))
    (case lCODE_PARTS_3 => k_is)
    (case mCODE_PARTS_3 => exact (by rw [sizeLine_eq]; decide))
    (case vCODE_PARTS_3 => exact by repeat (first | exact .nil | refine .cons ⟨_, rfl⟩ ?_))
    (case lCODE_PARTS_4 => k_is)
    (case mCODE_PARTS_4 => exact (by rw [sizeLine_eq]; decide))
    (case vCODE_PARTS_4 => exact by repeat (first | exact .nil | refine .cons ⟨_, rfl⟩ ?_))
    (case aINSTRUCTION_PARTS => k_is)
    (case lINSTRUCTION_PARTS => k_is)
    (case vINSTRUCTION_PARTS => k_keys)
    (case sINSTRUCTION_PARTS => decide)
    (case rINSTRUCTION_PARTS => exact (by repeat (first | exact trivial | refine ⟨⟨_, rfl⟩, rfl, ?_⟩ | refine ⟨⟨_, rfl⟩, ⟨_, rfl⟩, ?_⟩)))
    (case lINSTRUCTION_PARTS_0 => k_is)
    (case mINSTRUCTION_PARTS_0 => exact (by rw [sizeLine_eq]; decide))
    (case vINSTRUCTION_PARTS_0 => exact by repeat (first | exact .nil | refine .cons ⟨_, rfl⟩ ?_))
    (case lINSTRUCTION_PARTS_1 => k_is)
    (case mINSTRUCTION_PARTS_1 => exact (by rw [sizeLine_eq]; decide))
    (case vINSTRUCTION_PARTS_1 => exact by repeat (first | exact .nil | refine .cons ⟨_, rfl⟩ ?_))
    (case lINSTRUCTION_PARTS_2 => k_is)
    (case mINSTRUCTION_PARTS_2 => exact (by rw [sizeLine_eq]; decide))
    (case vINSTRUCTION_PARTS_2 => exact by repeat (first | exact .nil | refine .cons ⟨_, rfl⟩ ?_))
    (case lINSTRUCTION_PARTS_3 => k_is)
    (case mINSTRUCTION_PARTS_3 => exact (by rw [sizeLine_eq]; decide))
    (case vINSTRUCTION_PARTS_3 => exact by repeat (first | exact .nil | refine .cons ⟨_, rfl⟩ ?_))
    (case lINSTRUCTION_PARTS_4 => k_is)
    (case mINSTRUCTION_PARTS_4 => exact (by rw [sizeLine_eq]; decide))
    (case vINSTRUCTION_PARTS_4 => exact by repeat (first | exact .nil | refine .cons ⟨_, rfl⟩ ?_))
    (case lINSTRUCTION_PARTS_5 => k_is)
    (case mINSTRUCTION_PARTS_5 => exact (by rw [sizeLine_eq]; decide))
    (case vINSTRUCTION_PARTS_5 => exact by repeat (first | exact .nil | refine .cons ⟨_, rfl⟩ ?_))
    (case lINSTRUCTION_PARTS_6 => k_is)
    (case mINSTRUCTION_PARTS_6 => exact (by rw [sizeLine_eq]; decide))
    (case vINSTRUCTION_PARTS_6 => exact by repeat (first | exact .nil | refine .cons ⟨_, rfl⟩ ?_))
    (case lINSTRUCTION_PARTS_7 => k_is)
    (case mINSTRUCTION_PARTS_7 => exact (by rw [sizeLine_eq]; decide))
    (case vINSTRUCTION_PARTS_7 => exact by repeat (first | exact .nil | refine .cons ⟨_, rfl⟩ ?_))
    (case lINSTRUCTION_PARTS_8 => k_is)
    (case mINSTRUCTION_PARTS_8 => exact (by rw [sizeLine_eq]; decide))
    (case vINSTRUCTION_PARTS_8 => exact by repeat (first | exact .nil | refine .cons ⟨_, rfl⟩ ?_))
    (case lINSTRUCTION_PARTS_9 => k_is)
    (case mINSTRUCTION_PARTS_9 => exact (by rw [sizeLine_eq]; decide))
    (case vINSTRUCTION_PARTS_9 => exact by repeat (first | exact .nil | refine .cons ⟨_, rfl⟩ ?_))
    (case lINSTRUCTION_PARTS_10 => k_is)
    (case mINSTRUCTION_PARTS_10 => exact (by rw [sizeLine_eq]; decide))
    (case vINSTRUCTION_PARTS_10 => exact by repeat (first | exact .nil | refine .cons ⟨_, rfl⟩ ?_))
