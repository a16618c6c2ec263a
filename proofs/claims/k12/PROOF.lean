import PyProof.Rows.All
import Wide.All
import OpenK.AllK
import Wide.FinOn
import HandS.ForMost
import HandS.TupAny
import HandS.TupMul
import KE.KDictKeyed
import KE.KeyNested
import HandS.Lambda
import HandS.Style
import HandS.Zip
import HandS.IsInst
import KE.KDictDisplayH
import KE.KDictWalk
import HandS.Dict
import HandS.Iter
import KE.GoesEnum
import HandS.More
import KE.SortData
import OpenK.KMore
import PyProof.ReprRoads
import HandS.Ends
import HandS.Property
import KE.KOpsOwn
import PyProof.TwoTypes
import HandS.FStr
import HandS.RaiseMore
import KE.KCallOwn
import HandS.MakeKwOnly
import HandS.ClsMeth
import HandS.CallLocal
import PyProof.ReprNest
import PyProof.ReprHeadsEmpty
import PyProof.StrHeap
import PyProof.ReprDict
import HandS.OwnEq
import HandS.Defaults
import KE.KRevSl
import KE.KDictItemsList
import KE.KEqDict
import HandS.SortKw
import KE.DataMinMax
import HandS.DictComp
import HandS.TryOnly
import HandS.TupSets
import HandS.Flow
import KE.KTupSum
import HandS.SetFor
import HandS.Strs
import KE.KMathGC
import HandS.Gcd
import HandS.Deep
import KE.KDictPairs
import HandS.ExcInit
import KE.KExcInit
import HandS.WordsExc
import HandS.CallSlots
import HandS.TryMany
import HandS.ExcField
import KE.KExcIs
import PySem.Challenge.RW_aheadsums_k12_whole_tables_put_together
import KE.OsRunLaw
set_option Elab.async false
set_option maxRecDepth 100000
set_option maxHeartbeats 4000000
set_option exponentiation.threshold 10000
set_option linter.all false
section
set_option maxHeartbeats 0
namespace Pd.Top
open PySem PySem.W
abbrev pv : Program := PySem.Challenge.pw_aheadsums_k12_whole_tables_put_together
abbrev rv : OpenLaw := PySem.Challenge.rw_aheadsums_k12_whole_tables_put_together
noncomputable def xv : Program := view pv [0, 1, 3, 4, 5, 6, 7, 8, 9, 10, 11, 12, 13, 14, 15, 17, 18, 19, 20, 21, 22, 23, 25, 26, 27, 28, 29, 30, 32, 33, 34, 35, 36, 37, 38, 39, 40, 41, 42, 43, 44, 46, 47, 48, 49, 50, 51, 52, 53, 54, 55, 56, 57, 58, 59, 60]
abbrev xl : List Str := [Str.ofString "Ratio", Str.ofString "Table"]
noncomputable def run (w : World) : Option (Shared × SharedT) :=
  HeadRun.wholeF (fun p => HeadRun.stepQ
    (HeadRun.denQ HeadRun.tabQ) p w) HeadRun.fenceQ 12618 pv
noncomputable def eye (x : Shared × SharedT) := HeadRun.seenQ xv xl
  (importedModules pv.main.body) (fun s => xlAt xv [] s && recOk (RowW.records rv.row.toRowW) s) x.2.abs
section
local macro_rules | `(tactic| o_headL (kHook $K $as $pf)) => `(tactic| assumption)
theorem aux (x : rv.row.Holds) : rv.row.Holds := by
  k_headL
end
noncomputable abbrev ob (w : World) (x : Shared × SharedT) := ((aux.heap_1 w.params).map fun a => a.1).map (HeadRun.getT x.2)
theorem hA (w : World) : (run w).map (fun x => (HeadRun.looksF pv x.1.heap x.2.abs, ob w x, (eye x).2.1)) = some (true, ((aux.heap_1 w.params).map fun x => some x.2), bltViewBooted) := by kernel_rfl
theorem hB (w : World) : (run w).map (fun x => ((eye x).2.2.2.2.1, (eye x).2.2.2.2.2.2.1, (eye x).2.2.2.2.2.2.2.2)) = some (pinGoodD (PyProof.Rows.drecsOf xv), PyProof.Rows.plainGoodD xv xl, clsGoodW xv xl) := by kernel_rfl
theorem h0 (w : World) : (run w).map (fun x => (eye x).1) = some (PyProof.Rows.expectedOf xv) := by kernel_rfl
theorem h2 (w : World) : (run w).map (fun x => (eye x).2.2.1) = some (true) := by kernel_rfl
theorem h3 (w : World) : (run w).map (fun x => (eye x).2.2.2.1) = some (true) := by kernel_rfl
theorem h7 (w : World) : (run w).map (fun x => (eye x).2.2.2.2.2.2.2.1) = some (wideGood xv) := by kernel_rfl
theorem lw : looseW xv xl = PySem.W.Fast.tw821141287760084731 xv xl :=
  congrFun (congrFun PySem.W.Fast.te821141287760084731 xv) xl
theorem h5t (w : World) : (run w).map (fun x => (eye x).2.2.2.2.2.1) = some (PyProof.Rows.plainGoodE xv (PySem.W.Fast.tw821141287760084731 xv xl)) := by kernel_rfl
theorem h5 (w : World) : (run w).map (fun x => (eye x).2.2.2.2.2.1) = some (PyProof.Rows.plainGoodE xv (looseW xv xl)) :=
  (h5t w).trans (congrArg (fun l => some (PyProof.Rows.plainGoodE xv l)) lw.symm)

theorem put {σ α0 α1 α2 α3 α4 α5 α6 α7 α8 κ : Type} {X : Option σ} {f : σ → Bool} {g : σ → α0 × α1 × α2 × α3 × α4 × α5 × α6 × α7 × α8} {k : σ → κ} {t c b0 b1 b2 b3 b4 b5 b6 b7 b8}
    (hA : X.map (fun x => (f x, k x, (g x).2.1)) = some (t, c, b1)) (hB : X.map (fun x => ((g x).2.2.2.2.1, (g x).2.2.2.2.2.2.1, (g x).2.2.2.2.2.2.2.2)) = some (b4, b6, b8))
    (h0 : X.map (fun x => (g x).1) = some b0) (h2 : X.map (fun x => (g x).2.2.1) = some b2) (h3 : X.map (fun x => (g x).2.2.2.1) = some b3) (h5 : X.map (fun x => (g x).2.2.2.2.2.1) = some b5) (h7 : X.map (fun x => (g x).2.2.2.2.2.2.2.1) = some b7) :
    X.map (fun x => (f x, g x, k x)) = some (t, (b0, b1, b2, b3, b4, b5, b6, b7, b8), c) := by
  cases X with
  | none => cases h0
  | some x =>
    cases hA; cases hB; cases h0; cases h2; cases h3; cases h5; cases h7
    rfl
theorem all (w : World) : ((run w).map (fun x => (HeadRun.looksF pv x.1.heap x.2.abs, eye x, ob w x)) = some (true, (PyProof.Rows.expectedOf xv, bltViewBooted, true, true, pinGoodD (PyProof.Rows.drecsOf xv), PyProof.Rows.plainGoodE xv (looseW xv xl), PyProof.Rows.plainGoodD xv xl, wideGood xv, clsGoodW xv xl), (aux.heap_1 w.params).map fun x => some x.2)) :=
  put (hA w) (hB w) (h0 w) (h2 w) (h3 w) (h5 w) (h7 w)
theorem use {w : World} {M : Nat} {p : Program} {β : Type} {f : Shared × SharedT → β} {b : β}
    (h : ((run w).map (fun x => (HeadRun.looksF pv x.1.heap x.2.abs, eye x, ob w x)) = some (true, (PyProof.Rows.expectedOf xv, bltViewBooted, true, true, pinGoodD (PyProof.Rows.drecsOf xv), PyProof.Rows.plainGoodE xv (looseW xv xl), PyProof.Rows.plainGoodD xv xl, wideGood xv, clsGoodW xv xl), (aux.heap_1 w.params).map fun x => some x.2)) =
      ((HeadRun.wholeF (fun p => HeadRun.stepQ (HeadRun.denQ HeadRun.tabQ) p w) HeadRun.fenceQ M p).map f = some b)) :
    (HeadRun.wholeF (fun p => HeadRun.stepQ (HeadRun.denQ HeadRun.tabQ) p w) HeadRun.fenceQ M p).map f = some b :=
  h.mp (all w)
end Pd.Top
end
namespace Pd
open PySem L2
inductive D where
  | non | bl (b : Bool) | int (i : Int) | str (x : Str) | tup (ds : List D) | lst (ds : List D) | dic (kvs : List (D × D)) | pot | ins (c : Str) (fs : List (Str × D)) | fn (x : Str) | rng (n : Nat) | dik (kvs : List (Int × Int)) | clo (path : List Nat) (vs : List D)
mutual
def D.nk : D → Option NestedKey
  | .non => some .none
  | .bl b => some (.num (if b = true then 1 else 0))
  | .int i => some (.num i)
  | .str x => some (.text x)
  | .tup ds => match D.nks ds with
    | some ks => some (.tup ks)
    | none => none
  | .lst _ => none
  | .dic _ => none
  | .pot => none
  | .ins _ _ => none
  | .fn _ => none
  | .rng _ => none
  | .dik _ => none
  | .clo _ _ => none
def D.nks : List D → Option (List NestedKey)
  | [] => some []
  | d :: ds => match D.nk d with
    | none => none
    | some k => match D.nks ds with
      | none => none
      | some ks => some (k :: ks)
end
mutual
def D.py : D → Option PyData
  | .non => some .none
  | .bl b => some (.bool b)
  | .int i => some (.int i)
  | .str x => some (.str x)
  | .tup ds => match D.pys ds with
    | some ks => some (.tuple ks)
    | none => none
  | .lst ds => match D.pys ds with
    | some ks => some (.list ks)
    | none => none
  | .dic _ => none
  | .pot => none
  | .ins _ _ => none
  | .fn _ => none
  | .rng _ => none
  | .dik _ => none
  | .clo _ _ => none
def D.pys : List D → Option (List PyData)
  | [] => some []
  | d :: ds => match D.py d with
    | none => none
    | some k => match D.pys ds with
      | none => none
      | some ks => some (k :: ks)
end
inductive T (α : Type) where
  | ret (a : α) | fail | draw (n : Nat) (k : Nat → T α)
def T.bind {α β : Type} : T α → (α → T β) → T β
  | .ret a, f => f a
  | .fail, _ => .fail
  | .draw n k, f => .draw n fun i => (k i).bind f
def T.all {α : Type} (P : α → Prop) : T α → Prop
  | .ret a => P a
  | .fail => False
  | .draw n k => ∀ i, i < n → (k i).all P
theorem T.all_bind {α β : Type} {P : β → Prop} : ∀ {t : T α} {f : α → T β}, (t.bind f).all P ↔ t.all fun a => (f a).all P
  | .ret _, _ => Iff.rfl
  | .fail, _ => Iff.rfl
  | .draw n k, f => by
    show (∀ i, i < n → ((k i).bind f).all P) ↔ (∀ i, i < n → (k i).all fun a => (f a).all P)
    exact ⟨fun h i hi => T.all_bind.mp (h i hi), fun h i hi => T.all_bind.mpr (h i hi)⟩
theorem T.all_mono {α : Type} {P Q : α → Prop} (h : ∀ a, P a → Q a) : ∀ {t : T α}, t.all P → t.all Q
  | .ret a, x => h a x
  | .fail, x => x
  | .draw _ _, x => fun i hi => T.all_mono h (x i hi)
def DN (P : Program) (w : World) (a : Addr) (xs : List (NestedKey × Addr × V)) : HO := .ext fun h => (a == sysModules) = false ∧ xs.length ≤ sizeLine ∧ (xs.map (·.1)).Nodup ∧ ∃ ys : List (NestedKey × Addr × Value),
  Paired (fun p q => p.1 = q.1 ∧ p.2.1 = q.2.1 ∧ RelV p.2.2 q.2.2) xs ys ∧ ∃ o es ep, h.get? a = some o ∧ o.ExactDict ∧ o.data = .dict es ep ∧ es.toList = ys.map (entryOfKey (nestedKind P w))
structure LamI where
  params : Arguments
  body : Expr
  scope : Scope
  qual : Str
def LamI.names (t : LamI) : List Str := (t.scope.names.filter fun y => decide (y.2 = .free)).map (·.1)
def kidsE : Expr → List Expr
  | .Call f es _ _ => f :: es
  | .List es _ => es
  | .Tuple es _ _ => es
  | .Compare l _ rs _ => l :: rs
  | .BoolOp _ es _ => es
  | .UnaryOp _ e _ => [e]
  | .BinOp l _ r _ => [l, r]
  | .IfExp t a b _ => [t, a, b]
  | .ListComp e _ _ _ => [e]
  | _ => []
def kidsS : Stmt → List (Stmt ⊕ Expr)
  | .Expr e _ => [.inr e]
  | .Assign _ e _ => [.inr e]
  | .Return (some e) _ => [.inr e]
  | .If t b o _ => .inr t :: (b ++ o).map .inl
  | .For _ i b o _ => .inr i :: (b ++ o).map .inl
  | .FunctionDef _ _ b _ _ _ _ _ _ _ => b.map .inl
  | _ => []
def lamE (q : Str) : List Nat → Expr → Option LamI
  | [], .Lambda ps b sc _ => some ⟨ps, b, sc, q⟩
  | [], _ => none
  | i :: p, e => match (kidsE e)[i]? with
    | some e' => lamE q p e'
    | none => none
def lamS (q : Str) : List Nat → Stmt → Option LamI
  | [], _ => none
  | i :: p, s => match (kidsS s)[i]? with
    | some (.inl s') => lamS q p s'
    | some (.inr e) => lamE q p e
    | none => none
def lamD : List Nat → Stmt → Option LamI
  | p, .FunctionDef nm ps b a r t sc ts bd pos => lamS (nm ++ ".<locals>." ++ "<lambda>") p (.FunctionDef nm ps b a r t sc ts bd pos)
  | _, _ => none
/-- the lambda at a place -/
def lamAt (P : Program) : List Nat → Option LamI
  | [] => none
  | i :: p => lamD p (P.main.body.getD i (.Pass ⟨0, 0, 0, 0⟩))
/-- the object at a is the lambda t with the cells cl -/
abbrev LamO (a : Addr) (t : LamI) (cl : List (Str × Addr)) (c' : Addr) : HO := .ext fun h => ∃ pm ctv, h.get? a = some (PySem.W.kla_obj "<lambda>" t.qual t.params t.body t.scope cl pm c' ctv)
/-- the object at c is o -/
abbrev CellO (c : Addr) (o : Obj) : HO := .ext fun h => h.get? c = some o
/-- the captured names' cells, told for the time of a call -/
structure CellsD (π : Addr) (H : Hp) (cl : List (Str × Addr)) (ns : List Str) (us : List V) : Prop where
  len : us.length = ns.length
  inj : ∀ x y c, cl.lookup x = some c → cl.lookup y = some c → x = y
  dom : ∀ y c, cl.lookup y = some c → y ∈ ns
  at_ : ∀ (i : Nat) (y : Str), ns[i]? = some y → ∃ (c : Addr) (o : Obj) (v : V) (u : Value), cl.lookup y = some c ∧ us[i]? = some v ∧ H c = some (CellO c o) ∧ c ≠ π ∧ o.data = .cell (some u) ∧ RelV v u
theorem CellsD.mono {π : Addr} {H H' : Hp} {cl : List (Str × Addr)} {ns : List Str} {us : List V} (k : ∀ a o, a ≠ π → H a = some o → H' a = some o) (h : CellsD π H cl ns us) : CellsD π H' cl ns us :=
  ⟨h.len, h.inj, h.dom, fun i y e => let ⟨c, o, v, u, h1, h2, h3, h4, h5, h6⟩ := h.at_ i y e; ⟨c, o, v, u, h1, h2, k c _ h4 h3, h4, h5, h6⟩⟩
section
variable (K : PySem.W.Frag) (P : Program) (w : World) (π : Addr)
mutual
inductive Rv (H : Hp) : V → D → Prop
  | non : Rv H .non .non
  | bl (b : Bool) : Rv H (.bl b) (.bl b)
  | int (i : Int) : Rv H (.int i) (.int i)
  | str (x : Str) : Rv H (.str x) (.str x)
  | tup {a : Addr} {vs : List V} {ds : List D} : H a = some (.tup vs) → a ≠ π → RvL H vs ds → Rv H (.ref a) (.tup ds)
  | tupK {a : Addr} {vs : List V} {ds : List D} : (∀ H', SqT K H' a vs) → RvL H vs ds → Rv H (.ref a) (.tup ds)
  | lst {a : Addr} {vs : List V} {ds : List D} : H a = some (.lst vs) → a ≠ π → RvL H vs ds → Rv H (.ref a) (.lst ds)
  | dic {a : Addr} {od : Obj} {xs : List (NestedKey × Addr × V)} {kvs : List (D × D)} : H a = some (.frz od (DN P w a xs)) → a ≠ π → RvD H xs kvs → Rv H (.ref a) (.dic kvs)
  | pot : Rv H (.ref π) .pot
  | ins {a dx C : Addr} {c : Str} {fs : List (Str × V)} {ds : List (Str × D)} : PySem.W.nsIn K mainGlobals c = some (some (.ref C)) → H a = some (.ins C dx fs) → a ≠ π → RvF H fs ds → Rv H (.ref a) (.ins c ds)
  | fn {a : Addr} {x : Str} : PySem.W.nsIn K mainGlobals x = some (some (.ref a)) → (∃ o f, K.lookup a = some o ∧ o.data = .func f) → Rv H (.ref a) (.fn x)
  | rng {a : Addr} {n : Nat} : H a = some (.rng 0 (n : Int)) → a ≠ π → Rv H (.ref a) (.rng n)
  | dik {a : Addr} {kvs : List (Int × Int)} {od : Obj} : H a = some (.frz od (.dK (kvs.map fun p => (.inl p.1, V.int p.2)))) → a ≠ π → Rv H (.ref a) (.dik kvs)
  | clo {a c' : Addr} {t : LamI} {cl : List (Str × Addr)} {us : List V} {path : List Nat} {vs : List D} : lamAt P path = some t → H a = some (LamO a t cl c') → H c' = some (LamX.CodeO c' t.qual) → a ≠ π → c' ≠ π → CellsD π H cl t.names us → RvL H us vs → Rv H (.ref a) (.clo path vs)
inductive RvF (H : Hp) : List (Str × V) → List (Str × D) → Prop
  | nil : RvF H [] []
  | cons {x : Str} {v : V} {d : D} {fs : List (Str × V)} {ds : List (Str × D)} : Rv H v d → RvF H fs ds → RvF H ((x, v) :: fs) ((x, d) :: ds)
inductive RvL (H : Hp) : List V → List D → Prop
  | nil : RvL H [] []
  | cons {v : V} {d : D} {vs : List V} {ds : List D} : Rv H v d → RvL H vs ds → RvL H (v :: vs) (d :: ds)
inductive RvD (H : Hp) : List (NestedKey × Addr × V) → List (D × D) → Prop
  | nil : RvD H [] []
  | cons {k : NestedKey} {a : Addr} {v : V} {dk dv : D} {xs : List (NestedKey × Addr × V)} {kvs : List (D × D)} : dk.nk = some k → k.depth ≤ 8 → Rv H (.ref a) dk → Rv H v dv → RvD H xs kvs → RvD H ((k, a, v) :: xs) ((dk, dv) :: kvs)
end
end
/-- what is tracked (but the pot) stays -/
def Kp (π : Addr) (H H' : Hp) : Prop := ∀ a o, a ≠ π → H a = some o → H' a = some o
theorem Kp.refl {π : Addr} {H : Hp} : Kp π H H := fun _ _ _ h => h
theorem Kp.trans {π : Addr} {H H1 H2 : Hp} (a : Kp π H H1) (b : Kp π H1 H2) : Kp π H H2 := fun x o n h => b x o n (a x o n h)
section
variable {K : PySem.W.Frag} {P : Program} {w : World} {π : Addr} {H H' : Hp}
mutual
theorem Rv.mono (k : Kp π H H') : ∀ {d : D} {v : V}, Rv K P w π H v d → Rv K P w π H' v d
  | _, _, .non => .non
  | _, _, .bl b => .bl b
  | _, _, .int i => .int i
  | _, _, .str x => .str x
  | _, _, .tup h n r => .tup (k _ _ n h) n (RvL.mono k r)
  | _, _, .tupK h r => .tupK h (RvL.mono k r)
  | _, _, .lst h n r => .lst (k _ _ n h) n (RvL.mono k r)
  | _, _, .dic h n r => .dic (k _ _ n h) n (RvD.mono k r)
  | _, _, .pot => .pot
  | _, _, .fn c h => .fn c h
  | _, _, .rng h n => .rng (k _ _ n h) n
  | _, _, .dik h n => .dik (k _ _ n h) n
  | _, _, .clo e h hc n nc cs r => .clo e (k _ _ n h) (k _ _ nc hc) n nc (cs.mono k) (RvL.mono k r)
  | _, _, .ins c h n r => .ins c (k _ _ n h) n (RvF.mono k r)
theorem RvF.mono (k : Kp π H H') : ∀ {ds : List (Str × D)} {vs : List (Str × V)}, RvF K P w π H vs ds → RvF K P w π H' vs ds
  | _, _, .nil => .nil
  | _, _, .cons r t => .cons (Rv.mono k r) (RvF.mono k t)
theorem RvL.mono (k : Kp π H H') : ∀ {ds : List D} {vs : List V}, RvL K P w π H vs ds → RvL K P w π H' vs ds
  | _, _, .nil => .nil
  | _, _, .cons r t => .cons (Rv.mono k r) (RvL.mono k t)
theorem RvD.mono (k : Kp π H H') : ∀ {kvs : List (D × D)} {xs : List (NestedKey × Addr × V)}, RvD K P w π H xs kvs → RvD K P w π H' xs kvs
  | _, _, .nil => .nil
  | _, _, .cons e dp rk r t => .cons e dp (Rv.mono k rk) (Rv.mono k r) (RvD.mono k t)
end
theorem RvL.length : ∀ {ds : List D} {vs : List V}, RvL K P w π H vs ds → vs.length = ds.length
  | _, _, .nil => rfl
  | _, _, .cons _ t => congrArg Nat.succ (RvL.length t)
theorem RvL.get : ∀ {ds : List D} {vs : List V} {i : Nat} {d : D}, RvL K P w π H vs ds → ds[i]? = some d → ∃ v, vs[i]? = some v ∧ Rv K P w π H v d
  | _, _, _, _, .nil, e => by simp at e
  | _, _, 0, _, .cons r _, e => by simp at e; subst e; exact ⟨_, rfl, r⟩
  | _, _, i + 1, _, .cons _ t, e => RvL.get (i := i) t e
theorem RvL.append : ∀ {ds es : List D} {vs us : List V}, RvL K P w π H vs ds → RvL K P w π H us es → RvL K P w π H (vs ++ us) (ds ++ es)
  | _, _, _, _, .nil, s => s
  | _, _, _, _, .cons r t, s => .cons r (RvL.append t s)
theorem RvL.set {x : V} {d : D} (r : Rv K P w π H x d) : ∀ {ds : List D} {vs : List V} (i : Nat), RvL K P w π H vs ds → RvL K P w π H (vs.set i x) (ds.set i d)
  | _, _, _, .nil => .nil
  | _, _, 0, .cons _ t => .cons r t
  | _, _, i + 1, .cons q t => .cons q (RvL.set r i t)
theorem RvL.take : ∀ {ds : List D} {vs : List V} (n : Nat), RvL K P w π H vs ds → RvL K P w π H (vs.take n) (ds.take n)
  | _, _, 0, _ => .nil
  | _, _, _ + 1, .nil => .nil
  | _, _, n + 1, .cons r t => .cons r (RvL.take n t)
theorem RvL.drop : ∀ {ds : List D} {vs : List V} (n : Nat), RvL K P w π H vs ds → RvL K P w π H (vs.drop n) (ds.drop n)
  | _, _, 0, r => r
  | _, _, _ + 1, .nil => .nil
  | _, _, n + 1, .cons _ t => RvL.drop n t
end
def Hide (N : Addr → Bool) (H : Hp) : Hp := fun a => if N a = true then none else H a
theorem hide_some {N : Addr → Bool} {H : Hp} {a : Addr} {o : HO} (h : Hide N H a = some o) : N a = false ∧ H a = some o := by
  unfold Hide at h
  by_cases n : N a = true
  · rw [if_pos n] at h
    cases h
  · rw [if_neg n] at h
    exact ⟨by simpa using n, h⟩
theorem hide_in {N : Addr → Bool} {H : Hp} {a : Addr} (n : N a = false) : Hide N H a = H a := by
  unfold Hide
  rw [if_neg (by rw [n]; exact Bool.false_ne_true)]
theorem Kp.hide {π : Addr} {N : Addr → Bool} {H H' : Hp} (k : Kp π H H') : Kp π (Hide N H) (Hide N H') := fun a o n h => by
  obtain ⟨na, ha⟩ := hide_some h
  rw [hide_in na]
  exact k a o n ha
theorem Kp.less {π : Addr} {N N' : Addr → Bool} {H : Hp} (s : ∀ a, N' a = true → N a = true) : Kp π (Hide N H) (Hide N' H) := fun a o _ h => by
  obtain ⟨na, ha⟩ := hide_some h
  rw [hide_in, ha]
  cases q : N' a with
  | false => rfl
  | true => rw [s a q] at na; cases na
def PotOk (H : Hp) (π : Addr) : Prop := ∃ x y : Int, H π = some (.lst [.int x, .int y]) ∧ 0 ≤ x ∧ 0 ≤ y ∧ y < 2147483648
structure Ex (π : Addr) (H H' : Hp) : Prop where
  kp : Kp π H H'
  pot : PotOk H' π
theorem Ex.refl {π : Addr} {H : Hp} (p : PotOk H π) : Ex π H H := ⟨.refl, p⟩
theorem Ex.trans {π : Addr} {H H1 H2 : Hp} (a : Ex π H H1) (b : Ex π H1 H2) : Ex π H H2 := ⟨a.kp.trans b.kp, b.pot⟩
structure HN (π : Addr) (N : Addr → Bool) (H : Hp) : Prop where
  pot : PotOk H π
  npi : N π = false
  isS : ∀ a, N a = true → H a ≠ none
theorem HN.ext {π : Addr} {N : Addr → Bool} {H H' : Hp} (h : HN π N H) (e : Ex π H H') : HN π N H' := ⟨e.pot, h.npi, fun a n => by
  have q := h.isS a n
  have ne : a ≠ π := fun z => by rw [z, h.npi] at n; cases n
  cases c : H a with
  | none => exact absurd c q
  | some o => rw [e.kp a o ne c]; exact fun z => by cases z⟩
theorem PotOk.ne {π p : Addr} {H : Hp} (h : PotOk H π) (n : H p = none) : p ≠ π := fun e => by
  obtain ⟨x, y, q, _⟩ := h
  rw [← e, n] at q
  cases q
theorem HN.new {π p : Addr} {N : Addr → Bool} {H : Hp} (h : HN π N H) (n : H p = none) : N p = false := by
  cases c : N p with
  | false => rfl
  | true => exact absurd n (h.isS p c)
theorem Ex.new {π p : Addr} {H : Hp} {o : HO} (h : PotOk H π) (n : H p = none) : Ex π H (upd H p o) := ⟨fun a u _ e => by
  rw [upd_ne (ne_of_none e n)]
  exact e, by
  obtain ⟨x, y, q, r⟩ := h
  exact ⟨x, y, by rw [upd_ne (ne_of_none q n)]; exact q, r⟩⟩
theorem hide_new {p : Addr} {N : Addr → Bool} {H : Hp} {o : HO} (n : N p = false) : Hide N (upd H p o) p = some o := by
  rw [hide_in n, upd_same]
inductive Ent where
  | un | val (d : D) | own (ds : List D) | ownD (kvs : List (D × D)) | ownI (c : Str) (fs : List (Str × D))
abbrev Rho := List Ent
def Ent.isOwn : Ent → Bool
  | .own _ => true
  | .ownD _ => true
  | .ownI _ _ => true
  | _ => false
/-- what stands at l for an own thing -/
def OwnAt (K : PySem.W.Frag) (P : Program) (w : World) (π : Addr) (H : Hp) (l : Addr) (o : HO) : Ent → Prop
  | .own ds => ∃ vs, o = .lst vs ∧ RvL K P w π H vs ds
  | .ownD kvs => ∃ xs, o = DN P w l xs ∧ RvD K P w π H xs kvs
  | .ownI c fs => ∃ C dx vs, o = .ins C dx vs ∧ PySem.W.nsIn K mainGlobals c = some (some (.ref C)) ∧ RvF K P w π H vs fs
  | _ => False
theorem OwnAt.isOwn {K : PySem.W.Frag} {P : Program} {w : World} {π l : Addr} {H : Hp} {o : HO} : ∀ {x : Ent}, OwnAt K P w π H l o x → x.isOwn = true
  | .own _, _ => rfl
  | .ownD _, _ => rfl
  | .ownI _ _, _ => rfl
theorem OwnAt.mono {K : PySem.W.Frag} {P : Program} {w : World} {π l : Addr} {H H' : Hp} {o : HO} (k : Kp π H H') : ∀ {x : Ent}, OwnAt K P w π H l o x → OwnAt K P w π H' l o x
  | .own _, ⟨vs, e, r⟩ => ⟨vs, e, r.mono k⟩
  | .ownD _, ⟨vs, e, r⟩ => ⟨vs, e, r.mono k⟩
  | .ownI _ _, ⟨C, dx, vs, e, c, r⟩ => ⟨C, dx, vs, e, c, r.mono k⟩
structure EnvOk (K : PySem.W.Frag) (P : Program) (w : World) (π : Addr) (N0 : Addr → Bool) (H0 : Hp) (N : Addr → Bool) (H : Hp) (σ : L2.St) (ρ : Rho) : Prop where
  hn : HN π N H
  ex : Kp π H0 H
  sub : ∀ a, N0 a = true → N a = true
  own0 : ∀ a, N a = true → N0 a = true ∨ H0 a = none
  len : σ.length = ρ.length
  val : ∀ (i : Nat) (d : D), ρ[i]? = some (.val d) → ∃ v, σ[i]? = some (some v) ∧ Rv K P w π (Hide N H) v d
  own : ∀ (i : Nat) (x : Ent), ρ[i]? = some x → x.isOwn = true → ∃ l o, σ[i]? = some (some (.ref l)) ∧ N l = true ∧ N0 l = false ∧ H l = some o ∧ OwnAt K P w π (Hide N H) l o x
  inj : ∀ (i j : Nat) (e f : Ent) (l : Addr), ρ[i]? = some e → ρ[j]? = some f → e.isOwn = true → f.isOwn = true → σ[i]? = some (some (.ref l)) → σ[j]? = some (some (.ref l)) → i = j
section
variable {K : PySem.W.Frag} {P : Program} {w : World} {π : Addr} {N0 N : Addr → Bool} {H0 H H' : Hp} {σ : L2.St} {ρ : Rho}
theorem EnvOk.lst (I : EnvOk K P w π N0 H0 N H σ ρ) (i : Nat) (ds : List D) (h : ρ[i]? = some (.own ds)) : ∃ l vs, σ[i]? = some (some (.ref l)) ∧ N l = true ∧ N0 l = false ∧ H l = some (.lst vs) ∧ RvL K P w π (Hide N H) vs ds := by
  obtain ⟨l, o, a, n, n0, b, vs, rfl, r⟩ := I.own i _ h rfl
  exact ⟨l, vs, a, n, n0, b, r⟩
theorem EnvOk.dic (I : EnvOk K P w π N0 H0 N H σ ρ) (i : Nat) (kvs : List (D × D)) (h : ρ[i]? = some (.ownD kvs)) : ∃ l xs, σ[i]? = some (some (.ref l)) ∧ N l = true ∧ N0 l = false ∧ H l = some (DN P w l xs) ∧ RvD K P w π (Hide N H) xs kvs := by
  obtain ⟨l, o, a, n, n0, b, vs, rfl, r⟩ := I.own i _ h rfl
  exact ⟨l, vs, a, n, n0, b, r⟩
theorem EnvOk.ext (I : EnvOk K P w π N0 H0 N H σ ρ) (e : Ex π H H') : EnvOk K P w π N0 H0 N H' σ ρ where
  hn := I.hn.ext e
  ex := I.ex.trans e.kp
  sub := I.sub
  own0 := I.own0
  len := I.len
  val := fun i d h => let ⟨v, a, b⟩ := I.val i d h; ⟨v, a, b.mono e.kp.hide⟩
  own := fun i x h ho => let ⟨l, o, a, n, n0, b, c⟩ := I.own i x h ho
    ⟨l, o, a, n, n0, e.kp l _ (fun z => by rw [z, I.hn.npi] at n; cases n) b, c.mono e.kp.hide⟩
  inj := I.inj
/-- a name gets a value -/
theorem EnvOk.set {i : Nat} {v : V} {d : D} (I : EnvOk K P w π N0 H0 N H σ ρ) (r : Rv K P w π (Hide N H) v d) : EnvOk K P w π N0 H0 N H (σ.set i (some v)) (ρ.set i (.val d)) where
  hn := I.hn
  ex := I.ex
  sub := I.sub
  own0 := I.own0
  len := by rw [List.length_set, List.length_set]; exact I.len
  val := fun j e h => by
    by_cases q : i = j
    · subst q
      have hl : i < ρ.length := by
        have z := (List.getElem?_eq_some_iff.mp h).1
        rw [List.length_set] at z
        exact z
      rw [List.getElem?_set_self hl] at h
      cases h
      exact ⟨v, List.getElem?_set_self (by rw [I.len]; exact hl), r⟩
    · rw [List.getElem?_set_ne q] at h ⊢
      exact I.val j e h
  own := fun j x h ho => by
    by_cases q : i = j
    · subst q
      have hl : i < ρ.length := by
        have z := (List.getElem?_eq_some_iff.mp h).1
        rw [List.length_set] at z
        exact z
      rw [List.getElem?_set_self hl] at h
      cases h
      cases ho
    · rw [List.getElem?_set_ne q] at h ⊢
      exact I.own j x h ho
  inj := fun j k e f l h1 h2 o1 o2 s1 s2 => by
    have aux : ∀ {j : Nat} {e : Ent}, (ρ.set i (.val d))[j]? = some e → e.isOwn = true → i ≠ j := fun {j e} h1 o1 q => by
      subst q
      have hl : i < ρ.length := by
        have z := (List.getElem?_eq_some_iff.mp h1).1
        rw [List.length_set] at z
        exact z
      rw [List.getElem?_set_self hl] at h1
      cases h1
      cases o1
    have nj := aux h1 o1
    have nk := aux h2 o2
    rw [List.getElem?_set_ne nj] at h1 s1
    rw [List.getElem?_set_ne nk] at h2 s2
    exact I.inj j k e f l h1 h2 o1 o2 s1 s2
end
end Pd
namespace Pd
open PySem L2
section
variable {K : PySem.W.Frag} {P : Program} {w : World} {π : Addr} {N0 N N' : Addr → Bool} {H0 H H' : Hp} {σ σ' : L2.St} {ρ ρ' : Rho}
theorem at_set {α : Type} {l : List α} {i j : Nat} {x y : α} (h : (l.set i x)[j]? = some y) : (i = j ∧ i < l.length ∧ x = y) ∨ (i ≠ j ∧ l[j]? = some y) := by
  by_cases q : i = j
  · subst q
    have hl : i < l.length := by
      have z := (List.getElem?_eq_some_iff.mp h).1
      rw [List.length_set] at z
      exact z
    rw [List.getElem?_set_self hl] at h
    exact .inl ⟨rfl, hl, Option.some.inj h⟩
  · rw [List.getElem?_set_ne q] at h
    exact .inr ⟨q, h⟩
def plus (N : Addr → Bool) (l : Addr) : Addr → Bool := fun a => N a || a == l
def minus (N : Addr → Bool) (l : Addr) : Addr → Bool := fun a => N a && a != l
theorem plus_old {l a : Addr} (h : N a = true) : plus N l a = true := by simp [plus, h]
theorem plus_self {l : Addr} : plus N l l = true := by simp [plus]
theorem plus_or {l a : Addr} (h : plus N l a = true) : N a = true ∨ a = l := by simpa [plus] using h
theorem minus_of {l a : Addr} (h : N a = true) (n : a ≠ l) : minus N l a = true := by simp [minus, h, n]
theorem minus_in {l a : Addr} (h : minus N l a = true) : N a = true ∧ a ≠ l := by simpa [minus] using h
theorem minus_self {l : Addr} : minus N l l = false := by simp [minus]
theorem N_ne (hn : HN π N H) {l : Addr} (h : N l = true) : l ≠ π := fun z => by rw [z, hn.npi] at h; cases h
theorem Ex.hidden (e : Ex π H H') {l : Addr} (hl : H l = none) : Kp π (Hide N H) (Hide (plus N l) H') := fun a o n h => by
  obtain ⟨na, ha⟩ := hide_some h
  have ne : a ≠ l := fun z => by rw [z, hl] at ha; cases ha
  rw [hide_in (by simp [plus, na, ne])]
  exact e.kp a o n ha
/-- what a new own thing leaves -/
theorem EnvOk.newOwn {i : Nat} {l : Addr} {x : Ent} {o : HO} (I : EnvOk K P w π N0 H0 N H σ ρ) (e : Ex π H H') (hl : H l = none) (ho : H' l = some o) (hx : OwnAt K P w π (Hide (plus N l) H') l o x) :
    EnvOk K P w π N0 H0 (plus N l) H' (σ.set i (some (.ref l))) (ρ.set i x) := by
  have hl' : H' l ≠ none := by rw [ho]; exact fun z => by cases z
  have lpi : l ≠ π := I.hn.pot.ne hl
  have Nl : N l = false := I.hn.new hl
  have N0l : N0 l = false := by
    cases c : N0 l with
    | false => rfl
    | true => rw [I.sub l c] at Nl; cases Nl
  have keep : ∀ {l' : Addr} {o : HO}, N l' = true → H l' = some o → l' ≠ l ∧ H' l' = some o := fun {l' o} n h => ⟨(fun z => by rw [z, Nl] at n; cases n), e.kp l' o (N_ne I.hn n) h⟩
  refine ⟨⟨e.pot, by simp [plus, I.hn.npi, lpi.symm], fun a h => ?_⟩, I.ex.trans e.kp, fun a h => plus_old (I.sub a h), fun a h => ?_, ?_, fun j d h => ?_, fun j y h yo => ?_, ?_⟩
  · rcases plus_or h with h | h
    · exact (I.hn.ext e).isS a h
    · rw [h]; exact hl'
  · rcases plus_or h with h | h
    · exact I.own0 a h
    · refine .inr ?_
      rw [h]
      cases c : H0 l with
      | none => rfl
      | some o => rw [I.ex l o lpi c] at hl; cases hl
  · rw [List.length_set, List.length_set]; exact I.len
  · rcases at_set h with ⟨rfl, hi, q⟩ | ⟨q, h⟩
    · subst q; exact hx.elim
    · obtain ⟨v, a, b⟩ := I.val j d h
      exact ⟨v, by rw [List.getElem?_set_ne q]; exact a, b.mono (e.hidden hl)⟩
  · rcases at_set h with ⟨rfl, hi, q⟩ | ⟨q, h⟩
    · subst q
      exact ⟨l, o, List.getElem?_set_self (by rw [I.len]; exact hi), plus_self, N0l, ho, hx⟩
    · obtain ⟨l', o', a, n, n0, b, c⟩ := I.own j y h yo
      exact ⟨l', o', by rw [List.getElem?_set_ne q]; exact a, plus_old n, n0, (keep n b).2, c.mono (e.hidden hl)⟩
  · -- another own thing stands elsewhere
    have other : ∀ {j : Nat} {f : Ent} {l' : Addr}, ρ[j]? = some f → f.isOwn = true → σ[j]? = some (some (.ref l')) → l' ≠ l := fun {j f l'} h1 o1 s1 => by
      obtain ⟨l2, o2, a, n, _, b, _⟩ := I.own j f h1 o1
      rw [s1] at a
      cases a
      exact (keep n b).1
    intro j k f g l' h1 h2 o1 o2 s1 s2
    rcases at_set h1 with ⟨rfl, hi, q⟩ | ⟨q, h1⟩
    · rw [List.getElem?_set_self (by rw [I.len]; exact hi)] at s1
      cases s1
      rcases at_set h2 with ⟨rfl, _, _⟩ | ⟨q2, h2⟩
      · rfl
      · rw [List.getElem?_set_ne q2] at s2
        exact absurd rfl (other h2 o2 s2)
    · rw [List.getElem?_set_ne q] at s1
      rcases at_set h2 with ⟨rfl, hi, q2⟩ | ⟨q2, h2⟩
      · rw [List.getElem?_set_self (by rw [I.len]; exact hi)] at s2
        cases s2
        exact absurd rfl (other h1 o1 s1)
      · rw [List.getElem?_set_ne q2] at s2
        exact I.inj j k f g l' h1 h2 o1 o2 s1 s2
theorem EnvOk.newAny {i : Nat} {l : Addr} {x : Ent} (I : EnvOk K P w π N0 H0 N H σ ρ) (e : Ex π H H') (hl : H l = none) (_hl' : H' l ≠ none)
    (hx : (∃ vs ds, x = .own ds ∧ H' l = some (.lst vs) ∧ RvL K P w π (Hide (plus N l) H') vs ds) ∨ (∃ xs kvs, x = .ownD kvs ∧ H' l = some (DN P w l xs) ∧ RvD K P w π (Hide (plus N l) H') xs kvs)) :
    EnvOk K P w π N0 H0 (plus N l) H' (σ.set i (some (.ref l))) (ρ.set i x) := by
  rcases hx with ⟨vs, ds, rfl, h, r⟩ | ⟨xs, kvs, rfl, h, r⟩
  · exact I.newOwn e hl h ⟨vs, rfl, r⟩
  · exact I.newOwn e hl h ⟨xs, rfl, r⟩
/-- an own thing changes -/
theorem EnvOk.upOwn {i : Nat} {l : Addr} {x y : Ent} {o : HO} (I : EnvOk K P w π N0 H0 N H σ ρ) (hi : ρ[i]? = some y) (hy : y.isOwn = true) (hs : σ[i]? = some (some (.ref l))) (nl : N l = true) (n0 : N0 l = false) (hx : OwnAt K P w π (Hide N H) l o x) :
    EnvOk K P w π N0 H0 N (upd H l o) σ (ρ.set i x) := by
  have lpi := N_ne I.hn nl
  have e : Hide N (upd H l o) = Hide N H := by
    funext a
    by_cases q : a = l
    · subst q; simp [Hide, nl]
    · unfold Hide; rw [upd_ne q]
  have other : ∀ {j : Nat} {f : Ent} {l' : Addr}, i ≠ j → ρ[j]? = some f → f.isOwn = true → σ[j]? = some (some (.ref l')) → l' ≠ l := fun {j f l'} ne h1 o1 s1 z => by
    subst z
    exact ne (I.inj i j y f l' hi h1 hy o1 hs s1)
  refine ⟨⟨?_, I.hn.npi, fun a h => ?_⟩, fun a u n h => ?_, I.sub, I.own0, ?_, fun j d h => ?_, fun j z h zo => ?_, ?_⟩
  · obtain ⟨x, y, q, r⟩ := I.hn.pot
    exact ⟨x, y, by rw [upd_ne lpi.symm]; exact q, r⟩
  · by_cases q : a = l
    · subst q; rw [upd_same]; exact fun z => by cases z
    · rw [upd_ne q]; exact I.hn.isS a h
  · by_cases q : a = l
    · subst q
      rcases I.own0 a nl with z | z
      · rw [n0] at z; cases z
      · rw [z] at h; cases h
    · rw [upd_ne q]; exact I.ex a u n h
  · rw [List.length_set]; exact I.len
  · rw [e]
    rcases at_set h with ⟨rfl, _, q⟩ | ⟨q, h⟩
    · subst q; exact hx.elim
    · exact I.val j d h
  · rw [e]
    rcases at_set h with ⟨rfl, _, q⟩ | ⟨q, h⟩
    · subst q
      exact ⟨l, o, hs, nl, n0, upd_same, hx⟩
    · obtain ⟨l', o', a, n, n0, b, c⟩ := I.own j z h zo
      exact ⟨l', o', a, n, n0, by rw [upd_ne (other q h zo a)]; exact b, c⟩
  · intro j k f g l' h1 h2 o1 o2 s1 s2
    have back : ∀ {j : Nat} {f : Ent}, (ρ.set i x)[j]? = some f → f.isOwn = true → ∃ f', ρ[j]? = some f' ∧ f'.isOwn = true := fun {j f} h o1 => by
      rcases at_set h with ⟨rfl, _, _⟩ | ⟨_, h⟩
      · exact ⟨y, hi, hy⟩
      · exact ⟨f, h, o1⟩
    obtain ⟨f', a1, b1⟩ := back h1 o1
    obtain ⟨g', a2, b2⟩ := back h2 o2
    exact I.inj j k f' g' l' a1 a2 b1 b2 s1 s2
theorem EnvOk.upAny {i : Nat} {l : Addr} {x y : Ent} {o : HO} (I : EnvOk K P w π N0 H0 N H σ ρ) (hi : ρ[i]? = some y) (hy : y.isOwn = true) (hs : σ[i]? = some (some (.ref l))) (nl : N l = true) (n0 : N0 l = false)
    (hx : (∃ vs ds, x = .own ds ∧ o = .lst vs ∧ RvL K P w π (Hide N H) vs ds) ∨ (∃ xs kvs, x = .ownD kvs ∧ o = DN P w l xs ∧ RvD K P w π (Hide N H) xs kvs)) :
    EnvOk K P w π N0 H0 N (upd H l o) σ (ρ.set i x) := by
  rcases hx with ⟨vs, ds, rfl, h, r⟩ | ⟨xs, kvs, rfl, h, r⟩
  · exact I.upOwn hi hy hs nl n0 ⟨vs, h, r⟩
  · exact I.upOwn hi hy hs nl n0 ⟨xs, h, r⟩
/-- an own list, an own instance is a value from now on -/
theorem EnvOk.freezeAny {i : Nat} {y : Ent} {d : D} (I : EnvOk K P w π N0 H0 N H σ ρ) (hi : ρ[i]? = some y) (hy : (∃ ds, y = .own ds ∧ d = .lst ds) ∨ (∃ c fs, y = .ownI c fs ∧ d = .ins c fs)) :
    ∃ N', EnvOk K P w π N0 H0 N' H σ (ρ.set i (.val d)) := by
  have yo : y.isOwn = true := by rcases hy with ⟨_, rfl, _⟩ | ⟨_, _, rfl, _⟩ <;> rfl
  obtain ⟨l, o, hs, nl, n0, hb, hc⟩ := I.own i y hi yo
  have lpi := N_ne I.hn nl
  have k : Kp π (Hide N H) (Hide (minus N l) H) := Kp.less fun a h => (minus_in h).1
  have other : ∀ {j : Nat} {f : Ent} {l' : Addr}, i ≠ j → ρ[j]? = some f → f.isOwn = true → σ[j]? = some (some (.ref l')) → l' ≠ l := fun {j f l'} ne h1 o1 s1 z => by
    subst z
    exact ne (I.inj i j _ f l' hi h1 yo o1 hs s1)
  refine ⟨minus N l, ⟨I.hn.pot, ?_, fun a h => I.hn.isS a (minus_in h).1⟩, I.ex, fun a h => ?_, fun a h => I.own0 a (minus_in h).1, by rw [List.length_set]; exact I.len, fun j e h => ?_, fun j x h xo => ?_, ?_⟩
  · simp [minus, I.hn.npi]
  · exact minus_of (I.sub a h) fun z => by rw [z, n0] at h; cases h
  · rcases at_set h with ⟨rfl, _, q⟩ | ⟨q, h⟩
    · cases q
      refine ⟨.ref l, hs, ?_⟩
      rcases hy with ⟨ds, rfl, rfl⟩ | ⟨c, fs, rfl, rfl⟩
      · obtain ⟨vs, rfl, r⟩ := hc
        exact .lst (by rw [hide_in minus_self]; exact hb) lpi (r.mono k)
      · obtain ⟨C, dx, vs, rfl, cc, r⟩ := hc
        exact .ins cc (by rw [hide_in minus_self]; exact hb) lpi (r.mono k)
    · obtain ⟨v, a, b⟩ := I.val j e h
      exact ⟨v, a, b.mono k⟩
  · rcases at_set h with ⟨rfl, _, q⟩ | ⟨q, h⟩
    · subst q; cases xo
    · obtain ⟨l', o', a, n, m0, b, c⟩ := I.own j x h xo
      exact ⟨l', o', a, minus_of n (other q h xo a), m0, b, c.mono k⟩
  · intro j k f g l' h1 h2 o1 o2 s1 s2
    rcases at_set h1 with ⟨rfl, _, q⟩ | ⟨_, h1⟩
    · subst q; cases o1
    · rcases at_set h2 with ⟨rfl, _, q⟩ | ⟨_, h2⟩
      · subst q; cases o2
      · exact I.inj j k f g l' h1 h2 o1 o2 s1 s2
theorem EnvOk.freeze {i : Nat} {ds : List D} (I : EnvOk K P w π N0 H0 N H σ ρ) (hi : ρ[i]? = some (.own ds)) : ∃ N', EnvOk K P w π N0 H0 N' H σ (ρ.set i (.val (.lst ds))) := I.freezeAny hi (.inl ⟨ds, rfl, rfl⟩)
/-- a name without a value -/
theorem EnvOk.wipe1 {i : Nat} (I : EnvOk K P w π N0 H0 N H σ ρ) : EnvOk K P w π N0 H0 N H (σ.set i none) (ρ.set i .un) := by
  refine ⟨I.hn, I.ex, I.sub, I.own0, by rw [List.length_set, List.length_set]; exact I.len, fun j d h => ?_, fun j d h xo => ?_, fun j k f g l h1 h2 o1 o2 s1 s2 => ?_⟩
  · rcases at_set h with ⟨rfl, _, q⟩ | ⟨q, h⟩
    · cases q
    · rw [List.getElem?_set_ne q]; exact I.val j d h
  · rcases at_set h with ⟨rfl, _, q⟩ | ⟨q, h⟩
    · subst q; cases xo
    · rw [List.getElem?_set_ne q]; exact I.own j d h xo
  · rcases at_set h1 with ⟨rfl, _, q⟩ | ⟨q, h1⟩
    · subst q; cases o1
    · rcases at_set h2 with ⟨rfl, _, q2⟩ | ⟨q2, h2⟩
      · subst q2; cases o2
      · rw [List.getElem?_set_ne q] at s1
        rw [List.getElem?_set_ne q2] at s2
        exact I.inj j k f g l h1 h2 o1 o2 s1 s2
def baseOf (N0 N : Addr → Bool) (H : Hp) : Hp := fun a => if (N a && !N0 a) = true then none else H a
theorem base_some {a : Addr} {o : HO} (h : baseOf N0 N H a = some o) : (N a = false ∨ N0 a = true) ∧ H a = some o := by
  unfold baseOf at h
  by_cases c : (N a && !N0 a) = true
  · rw [if_pos c] at h; cases h
  · rw [if_neg c] at h
    refine ⟨?_, h⟩
    cases h1 : N a with
    | false => exact .inl rfl
    | true =>
      cases h2 : N0 a with
      | true => exact .inr rfl
      | false => rw [h1, h2] at c; exact absurd rfl c
theorem base_in {a : Addr} (h : N a = false ∨ N0 a = true) : baseOf N0 N H a = H a := by
  unfold baseOf
  rw [if_neg]
  rcases h with h | h <;> simp [h]
theorem EnvOk.rebase (I : EnvOk K P w π N0 H0 N H σ ρ) : EnvOk K P w π N0 (baseOf N0 N H) N H σ ρ where
  hn := I.hn
  ex := fun a o _ h => (base_some h).2
  sub := I.sub
  own0 := fun a h => by
    cases c : N0 a with
    | true => exact .inl rfl
    | false =>
      refine .inr ?_
      unfold baseOf
      rw [if_pos (by simp [h, c])]
  len := I.len
  val := I.val
  own := I.own
  inj := I.inj
theorem EnvOk.base_kp (I : EnvOk K P w π N0 H0 N H σ ρ) : Kp π H0 (baseOf N0 N H) := fun a o n h => by
  rw [base_in ?_]
  · exact I.ex a o n h
  · cases c : N a with
    | false => exact .inl rfl
    | true =>
      rcases I.own0 a c with z | z
      · exact .inr z
      · rw [z] at h; cases h
theorem EnvOk.unbase (I : EnvOk K P w π N0 H0 N H σ ρ) (J : EnvOk K P w π N0 (baseOf N0 N H) N' H' σ' ρ') : EnvOk K P w π N0 H0 N' H' σ' ρ' where
  hn := J.hn
  ex := I.base_kp.trans J.ex
  sub := J.sub
  own0 := fun a h => by
    rcases J.own0 a h with z | z
    · exact .inl z
    · refine .inr ?_
      cases c : H0 a with
      | none => rfl
      | some o =>
        by_cases q : a = π
        · rw [q, J.hn.npi] at h; cases h
        · rw [I.base_kp a o q c] at z; cases z
  len := J.len
  val := J.val
  own := J.own
  inj := J.inj
theorem EnvOk.seen (I : EnvOk K P w π N0 H0 N H σ ρ) (J : EnvOk K P w π N0 (baseOf N0 N H) N' H' σ' ρ') : Kp π (Hide N H) (Hide N' H') := fun a o n h => by
  obtain ⟨na, ha⟩ := hide_some h
  have b : baseOf N0 N H a = some o := by rw [base_in (.inl na)]; exact ha
  have h1 := J.ex a o n b
  have n' : N' a = false := by
    cases c : N' a with
    | false => rfl
    | true =>
      rcases J.own0 a c with z | z
      · rw [I.sub a z] at na; cases na
      · rw [b] at z; cases z
  rw [hide_in n']
  exact h1
end
section
variable {X : Cx}
def wpE (X : Cx) (e : Expr) : TE := fun σ H Q => ∃ te, PE X e te ∧ te σ H Q
theorem pe_wp {e : Expr} : PE X e (wpE X e) := ⟨fun pins s σ H Q I ⟨_, h, q⟩ => h.run pins s σ H Q I q⟩
def wpT (X : Cx) (e : Expr) : TT := fun σ H Q => ∃ te, PT X e te ∧ te σ H Q
theorem pt_wp {e : Expr} : PT X e (wpT X e) := ⟨fun pins s σ H Q I ⟨_, h, q⟩ => h.run pins s σ H Q I q⟩
def wpW (X : Cx) (e : Expr) : TT := fun σ H Q => ∃ te, PW X e te ∧ te σ H Q
theorem pw_wp {e : Expr} : PW X e (wpW X e) := ⟨fun wh pins s σ H Q I ⟨_, h, q⟩ => h.run wh pins s σ H Q I q⟩
def wpA (X : Cx) (es : List Expr) : TA := fun σ H Q => ∃ te, PA X es te ∧ te σ H Q
theorem pa_wp {es : List Expr} : PA X es (wpA X es) := ⟨fun pos pins s σ H Q I ⟨_, h, q⟩ => h.run pos pins s σ H Q I q⟩
def wpS (X : Cx) (st : Stmt) : TS := fun De σ H => ∃ te, PS X st te ∧ te De σ H
theorem ps_wp {st : Stmt} : PS X st (wpS X st) := ⟨fun pins s σ H De I ⟨_, h, q⟩ => h.run pins s σ H De I q⟩
def wpSs (X : Cx) (st : List Stmt) : TS := fun De σ H => ∃ te, PSs X st te ∧ te De σ H
theorem pss_wp {st : List Stmt} : PSs X st (wpSs X st) := ⟨fun pins s σ H De I ⟨_, h, q⟩ => h.run pins s σ H De I q⟩
def wpG (X : Cx) (e : Expr) : TG := fun v σ H Q => ∃ t, PG X e t ∧ t v σ H Q
theorem pg_wp {e : Expr} : PG X e (wpG X e) := ⟨fun pins s σ H v u Q I r ⟨_, h, q⟩ => h.run pins s σ H v u Q I r q⟩
def wpI (X : Cx) (tg e : Expr) : TI := fun σ H R => ∃ t, PI X tg e t ∧ t σ H R
theorem pi_wp {tg e : Expr} : PI X tg e (wpI X tg e) := ⟨fun pins s σ H R I ⟨_, h, q⟩ => h.run pins s σ H R I q⟩
def wpOp (X : Cx) (f : Value → Value → Sem Value) : R2 := fun x y H Q => ∃ r, OpR X f r ∧ r x y H Q
theorem op_wp {f : Value → Value → Sem Value} : OpR X f (wpOp X f) := fun pins s σ H x y v u Q I rx ry ⟨_, h, q⟩ => h pins s σ H x y v u Q I rx ry q
def wpCa (X : Cx) (f : Value) : List V → Hp → VK → Prop := fun xs H Q => ∃ r, CallR X f r ∧ r xs H Q
theorem ca_wp {f : Value} : CallR X f (wpCa X f) := fun pins s σ H xs us Q I rx ⟨_, h, q⟩ => h pins s σ H xs us Q I rx q
end
end Pd
namespace Pd
open PySem L2
section
variable (X : Cx)
/-- what is wanted of a value that a piece hands on -/
def Kd (π : Addr) (N : Addr → Bool) (H : Hp) (Q : VK) : D → Prop := fun d => ∀ v H2, Ex π H H2 → Rv X.K X.prog X.w π (Hide N H2) v d → Q v H2
def Kl (π : Addr) (N : Addr → Bool) (H : Hp) (Q : VK) : List D → Prop := fun ds => ∀ l vs H2, Ex π H H2 → H l = none → H2 l = some (.lst vs) → RvL X.K X.prog X.w π (Hide (plus N l) H2) vs ds → Q (.ref l) H2
def Ka (π : Addr) (N : Addr → Bool) (H : Hp) (Q : List V → Hp → Prop) : List D → Prop := fun ds => ∀ vs H2, Ex π H H2 → RvL X.K X.prog X.w π (Hide N H2) vs ds → Q vs H2
def Snd (e : Expr) (m : Rho → T D) : Prop := ∀ ⦃π : Addr⦄ ⦃N0 : Addr → Bool⦄ ⦃H0 : Hp⦄ ⦃N : Addr → Bool⦄ ⦃H : Hp⦄ ⦃σ : L2.St⦄ ⦃ρ : Rho⦄ ⦃Q : VK⦄, EnvOk X.K X.prog X.w π N0 H0 N H σ ρ → (m ρ).all (Kd X π N H Q) → wpE X e σ H Q
/-- a new list -/
def SndL (e : Expr) (m : Rho → T (List D)) : Prop := ∀ ⦃π : Addr⦄ ⦃N0 : Addr → Bool⦄ ⦃H0 : Hp⦄ ⦃N : Addr → Bool⦄ ⦃H : Hp⦄ ⦃σ : L2.St⦄ ⦃ρ : Rho⦄ ⦃Q : VK⦄, EnvOk X.K X.prog X.w π N0 H0 N H σ ρ → (m ρ).all (Kl X π N H Q) → wpE X e σ H Q
def SndA (es : List Expr) (m : Rho → T (List D)) : Prop := ∀ ⦃π : Addr⦄ ⦃N0 : Addr → Bool⦄ ⦃H0 : Hp⦄ ⦃N : Addr → Bool⦄ ⦃H : Hp⦄ ⦃σ : L2.St⦄ ⦃ρ : Rho⦄ ⦃Q : List V → Hp → Prop⦄, EnvOk X.K X.prog X.w π N0 H0 N H σ ρ → (m ρ).all (Ka X π N H Q) → wpA X es σ H Q
def SndT (e : Expr) (m : Rho → T Bool) : Prop := ∀ ⦃π : Addr⦄ ⦃N0 : Addr → Bool⦄ ⦃H0 : Hp⦄ ⦃N : Addr → Bool⦄ ⦃H : Hp⦄ ⦃σ : L2.St⦄ ⦃ρ : Rho⦄ ⦃Q : Bool → Hp → Prop⦄, EnvOk X.K X.prog X.w π N0 H0 N H σ ρ → (m ρ).all (fun b => ∀ H2, Ex π H H2 → Q b H2) → wpT X e σ H Q
def SndW (e : Expr) (m : Rho → T Bool) : Prop := ∀ ⦃π : Addr⦄ ⦃N0 : Addr → Bool⦄ ⦃H0 : Hp⦄ ⦃N : Addr → Bool⦄ ⦃H : Hp⦄ ⦃σ : L2.St⦄ ⦃ρ : Rho⦄ ⦃Q : Bool → Hp → Prop⦄, EnvOk X.K X.prog X.w π N0 H0 N H σ ρ → (m ρ).all (fun b => ∀ H2, Ex π H H2 → Q b H2) → wpW X e σ H Q
def OpSnd (f : Value → Value → Sem Value) (m : D → D → T D) : Prop := ∀ ⦃π : Addr⦄ ⦃N : Addr → Bool⦄ ⦃H : Hp⦄ ⦃x y : V⦄ ⦃dx dy : D⦄ ⦃Q : VK⦄, HN π N H → Rv X.K X.prog X.w π (Hide N H) x dx → Rv X.K X.prog X.w π (Hide N H) y dy → (m dx dy).all (Kd X π N H Q) → wpOp X f x y H Q
def CaSnd (f : Value) (m : List D → T D) : Prop := ∀ ⦃π : Addr⦄ ⦃N : Addr → Bool⦄ ⦃H : Hp⦄ ⦃xs : List V⦄ ⦃ds : List D⦄ ⦃Q : VK⦄, HN π N H → RvL X.K X.prog X.w π (Hide N H) xs ds → (m ds).all (Kd X π N H Q) → wpCa X f xs H Q
def CaSndL (f : Value) (m : List D → T (List D)) : Prop := ∀ ⦃π : Addr⦄ ⦃N : Addr → Bool⦄ ⦃H : Hp⦄ ⦃xs : List V⦄ ⦃ds : List D⦄ ⦃Q : VK⦄, HN π N H → RvL X.K X.prog X.w π (Hide N H) xs ds → (m ds).all (Kl X π N H Q) → wpCa X f xs H Q
end
section
variable {X : Cx} {a b c e : Expr} {es : List Expr} {ma mb m : Rho → T D} {mt mu : Rho → T Bool} {pos : Pos}
theorem Kd.up {π : Addr} {N : Addr → Bool} {H H1 : Hp} {Q : VK} {d : D} (e : Ex π H H1) (h : Kd X π N H Q d) : Kd X π N H1 Q d := fun v H2 e2 r => h v H2 (e.trans e2) r
theorem Kl.up {π : Addr} {N : Addr → Bool} {H H1 : Hp} {Q : VK} {ds : List D} (e : Ex π H H1) (h : Kl X π N H Q ds) (pt : PotOk H π) : Kl X π N H1 Q ds := fun l vs H2 e2 n1 h2 r => h l vs H2 (e.trans e2) (by
  cases c : H l with
  | none => rfl
  | some o =>
    by_cases q : l = π
    · subst q
      exact absurd n1 (fun z => (e.pot.ne z) rfl)
    · rw [e.kp l o q c] at n1; cases n1) h2 r
theorem Ka.up {π : Addr} {N : Addr → Bool} {H H1 : Hp} {Q : List V → Hp → Prop} {ds : List D} (e : Ex π H H1) (h : Ka X π N H Q ds) : Ka X π N H1 Q ds := fun v H2 e2 r => h v H2 (e.trans e2) r
def eVar (i : Nat) : Rho → T D := fun ρ => match ρ[i]? with
  | some (.val d) => .ret d
  | _ => .fail
def eC (d : D) : Rho → T D := fun _ => .ret d
def eBin (f : D → D → T D) (ma mb : Rho → T D) : Rho → T D := fun ρ => (ma ρ).bind fun x => (mb ρ).bind fun y => f x y
def asB : D → T Bool
  | .bl b => .ret b
  | _ => .fail
def eTest (m : Rho → T D) : Rho → T Bool := fun ρ => (m ρ).bind asB
def tAnd' (mt mu : Rho → T Bool) : Rho → T Bool := fun ρ => (mt ρ).bind fun b => cond b (mu ρ) (.ret false)
def tOr' (mt mu : Rho → T Bool) : Rho → T Bool := fun ρ => (mt ρ).bind fun b => cond b (.ret true) (mu ρ)
def tNot' (mt : Rho → T Bool) : Rho → T Bool := fun ρ => (mt ρ).bind fun b => .ret (!b)
def eAnd (ma mb : Rho → T D) : Rho → T D := fun ρ => (ma ρ).bind fun d => (asB d).bind fun b => cond b (mb ρ) (.ret (.bl false))
def eOr (ma mb : Rho → T D) : Rho → T D := fun ρ => (ma ρ).bind fun d => (asB d).bind fun b => cond b (.ret (.bl true)) (mb ρ)
def eNot (ma : Rho → T D) : Rho → T D := fun ρ => (ma ρ).bind fun d => (asB d).bind fun b => .ret (.bl (!b))
def eIf (mt : Rho → T Bool) (ma mb : Rho → T D) : Rho → T D := fun ρ => (mt ρ).bind fun b => cond b (ma ρ) (mb ρ)
def aNil : Rho → T (List D) := fun _ => .ret []
def aCons (ma : Rho → T D) (ms : Rho → T (List D)) : Rho → T (List D) := fun ρ => (ma ρ).bind fun d => (ms ρ).bind fun ds => .ret (d :: ds)
def small (ds : List D) : Bool := decide (ds.length ≤ 100000)
def eTup (ms : Rho → T (List D)) : Rho → T D := fun ρ => (ms ρ).bind fun ds => cond (small ds) (.ret (.tup ds)) .fail
def lLst (ms : Rho → T (List D)) : Rho → T (List D) := fun ρ => (ms ρ).bind fun ds => cond (small ds) (.ret ds) .fail
def eL (ml : Rho → T (List D)) : Rho → T D := fun ρ => (ml ρ).bind fun ds => .ret (.lst ds)
def eCall (n : Nat) (F : List D → T D) (ms : Rho → T (List D)) : Rho → T D := fun ρ => (ms ρ).bind fun ds => cond (ds.length == n) (F ds) .fail
def eCa (f : List D → T D) (ms : Rho → T (List D)) : Rho → T D := fun ρ => (ms ρ).bind f
def lCa (f : List D → T (List D)) (ms : Rho → T (List D)) : Rho → T (List D) := fun ρ => (ms ρ).bind f
theorem asB_all {P : Bool → Prop} {d : D} (h : (asB d).all P) : ∃ b, d = .bl b ∧ P b := by
  cases d <;> first | exact ⟨_, rfl, h⟩ | exact False.elim h
theorem Rv.bool {K : PySem.W.Frag} {P : Program} {w : World} {π : Addr} {H : Hp} {v : V} {b : Bool} (r : Rv K P w π H v (.bl b)) : v = .bl b := by cases r; rfl
theorem Rv.intE {K : PySem.W.Frag} {P : Program} {w : World} {π : Addr} {H : Hp} {v : V} {i : Int} (r : Rv K P w π H v (.int i)) : v = .int i := by cases r; rfl
theorem Rv.tupE {K : PySem.W.Frag} {P : Program} {w : World} {π : Addr} {N : Addr → Bool} {H : Hp} {v : V} {ds : List D} (r : Rv K P w π (Hide N H) v (.tup ds)) : ∃ a vs, v = .ref a ∧ SqT K H a vs ∧ RvL K P w π (Hide N H) vs ds := by
  cases r with
  | tup h n r => exact ⟨_, _, rfl, .inl (.inl (hide_some h).2), r⟩
  | tupK h r => exact ⟨_, _, rfl, h _, r⟩
theorem Rv.lstE {K : PySem.W.Frag} {P : Program} {w : World} {π : Addr} {N : Addr → Bool} {H : Hp} {v : V} {ds : List D} (r : Rv K P w π (Hide N H) v (.lst ds)) : ∃ a vs, v = .ref a ∧ H a = some (.lst vs) ∧ N a = false ∧ a ≠ π ∧ RvL K P w π (Hide N H) vs ds := by
  cases r with
  | lst h n r => exact ⟨_, _, rfl, (hide_some h).2, (hide_some h).1, n, r⟩
theorem sv (i : Nat) {x : Str} {pos : Pos} (hN : X.N[i]? = some x := by rfl) (hv : Vis X.env.scope x := by first | exact Or.inl rfl | exact Or.inr (Or.inl rfl) | exact Or.inr (Or.inr rfl)) (hd : (x == ("__debug__" : Str)) = false := by decide)
    (hcd : (x == ("__classdict__" : Str)) = false := by decide) : Snd X (.Name x pos) (eVar i) := fun {π N0 H0 N H σ ρ Q} I h => by
  unfold eVar at h
  split at h
  · obtain ⟨v, hs, r⟩ := I.val i _ (by assumption)
    exact ⟨_, pe_var hN hv hd hcd, v, hs, h v H (Ex.refl I.hn.pot) r⟩
  · exact False.elim h
theorem s_int {i j} : Snd X (.Constant (.int i) j pos) (eC (.int i)) := fun {_ _ _ _ _ _ _ _} I h => ⟨_, pe_int, h _ _ (Ex.refl I.hn.pot) (.int i)⟩
theorem s_bl {b j} : Snd X (.Constant (.bool b) j pos) (eC (.bl b)) := fun {_ _ _ _ _ _ _ _} I h => ⟨_, pe_bl, h _ _ (Ex.refl I.hn.pot) (.bl b)⟩
theorem s_non {j} : Snd X (.Constant .none j pos) (eC .non) := fun {_ _ _ _ _ _ _ _} I h => ⟨_, pe_non, h _ _ (Ex.refl I.hn.pot) .non⟩
theorem s_str {x j} : Snd X (.Constant (.str x) j pos) (eC (.str x)) := fun {_ _ _ _ _ _ _ _} I h => ⟨_, pe_str, h _ _ (Ex.refl I.hn.pot) (.str x)⟩
theorem two {f : D → D → T D} {g : Value → Value → Sem Value} (ho : OpSnd X g f) (ha : Snd X a ma) (hb : Snd X b mb) {π : Addr} {N0 : Addr → Bool} {H0 : Hp} {N : Addr → Bool} {H : Hp} {σ : L2.St} {ρ : Rho} {Q : VK}
    (I : EnvOk X.K X.prog X.w π N0 H0 N H σ ρ) (h : (eBin f ma mb ρ).all (Kd X π N H Q)) : tOp (wpOp X g) (wpE X a) (wpE X b) σ H Q := by
  refine ha I (T.all_mono (fun dx hx => ?_) (T.all_bind.mp h))
  intro v H1 e1 r1
  refine hb (I.ext e1) (T.all_mono (fun dy hy => ?_) (T.all_bind.mp hx))
  intro u H2 e2 r2
  exact ho (I.hn.ext (e1.trans e2)) (r1.mono e2.kp.hide) r2 (T.all_mono (fun _ hd => hd.up (e1.trans e2)) hy)
theorem s_bin {op : Operator} {f : D → D → T D} (ho : OpSnd X (binaryOp op) f) (ha : Snd X a ma) (hb : Snd X b mb) : Snd X (.BinOp a op b pos) (eBin f ma mb) := fun {_ _ _ _ _ _ _ _} I h => ⟨_, pe_op op_wp pe_wp pe_wp, two ho ha hb I h⟩
theorem s_cmp {op : CmpOp} {f : D → D → T D} (ho : OpSnd X (compareOp op) f) (ha : Snd X a ma) (hb : Snd X b mb) (hm : behindInMarks op b = false) : Snd X (.Compare a [op] [b] pos) (eBin f ma mb) := fun {_ _ _ _ _ _ _ _} I h => ⟨_, pe_cmpR op_wp pe_wp pe_wp hm, two ho ha hb I h⟩
theorem Kd.test {π : Addr} {N : Addr → Bool} {H : Hp} {Q : Bool → Hp → Prop} {d : D} (h : (asB d).all fun b => ∀ H2, Ex π H H2 → Q b H2) : Kd X π N H (fun x H' => ∃ k, x = .bl k ∧ Q k H') d := fun v H2 e r => by
  obtain ⟨b, rfl, q⟩ := asB_all h
  exact ⟨b, r.bool, q H2 e⟩
theorem st_cmp {op : CmpOp} {f : D → D → T D} (ho : OpSnd X (compareOp op) f) (ha : Snd X a ma) (hb : Snd X b mb) (hm : behindInMarks op b = false) : SndT X (.Compare a [op] [b] pos) (eTest (eBin f ma mb)) := fun {_ _ _ _ _ _ _ _} I h =>
  ⟨_, pt_cmpR op_wp pe_wp pe_wp hm, two ho ha hb I (T.all_mono (fun _ h => Kd.test h) (T.all_bind.mp h))⟩
theorem st_val (ha : Snd X a m) (he : ∀ whole, isTrue a X.env whole = (do let v ← whole; standAt a.pos; holding [v] (truthy v)) := by intro _; rfl) : SndT X a (eTest m) := fun {_ _ _ _ _ _ _ _} I h =>
  ⟨_, pt_val pe_wp he, ha I (T.all_mono (fun _ h => Kd.test h) (T.all_bind.mp h))⟩
theorem st_not (ha : SndT X a mt) : SndT X (.UnaryOp .Not a pos) (tNot' mt) := fun {_ _ _ _ _ _ _ _} I h => ⟨_, pt_not pt_wp, ha I (T.all_bind.mp h)⟩
theorem sw_and1 (ha : SndT X a mt) : SndW X (.BoolOp .And [a] pos) mt := fun {_ _ _ _ _ _ _ _} I h => ⟨_, pw_and1 pt_wp, ha I h⟩
theorem sw_or1 (ha : SndT X a mt) : SndW X (.BoolOp .Or [a] pos) mt := fun {_ _ _ _ _ _ _ _} I h => ⟨_, pw_or1 pt_wp, ha I h⟩
theorem sw_and {rest : List Expr} (ha : SndT X a mt) (hb : SndW X (.BoolOp .And (b :: rest) pos) mu) : SndW X (.BoolOp .And (a :: b :: rest) pos) (tAnd' mt mu) := fun {_ _ _ _ _ _ _ _} I h =>
  ⟨_, pw_and pt_wp pw_wp, ha I (T.all_mono (fun k hk H2 e => by
    cases k with
    | true => exact iteT (hb (I.ext e) (T.all_mono (fun _ q H3 e3 => q H3 (e.trans e3)) hk))
    | false => exact iteF (hk H2 e)) (T.all_bind.mp h))⟩
theorem sw_or {rest : List Expr} (ha : SndT X a mt) (hb : SndW X (.BoolOp .Or (b :: rest) pos) mu) : SndW X (.BoolOp .Or (a :: b :: rest) pos) (tOr' mt mu) := fun {_ _ _ _ _ _ _ _} I h =>
  ⟨_, pw_or pt_wp pw_wp, ha I (T.all_mono (fun k hk H2 e => by
    cases k with
    | true => exact iteT (hk H2 e)
    | false => exact iteF (hb (I.ext e) (T.all_mono (fun _ q H3 e3 => q H3 (e.trans e3)) hk))) (T.all_bind.mp h))⟩
theorem st_w (h : SndW X a mt) : SndT X a mt := fun {_ _ _ _ _ _ _ _} I q => ⟨_, pw_wp.pt, h I q⟩
theorem s_one {op} (ha : Snd X a m) : Snd X (.BoolOp op [a] pos) m := fun {_ _ _ _ _ _ _ _} I h => ⟨_, pe_one pe_wp, ha I h⟩
theorem s_and {rest : List Expr} (ha : Snd X a ma) (hb : Snd X (.BoolOp .And (b :: rest) pos) mb) : Snd X (.BoolOp .And (a :: b :: rest) pos) (eAnd ma mb) := fun {_ _ _ _ _ _ _ _} I h =>
  ⟨_, pe_and pe_wp pe_wp, ha I (T.all_mono (fun d hd v H2 e r => by
    obtain ⟨k, rfl, q⟩ := asB_all (T.all_bind.mp hd)
    refine ⟨k, r.bool, ?_⟩
    cases k with
    | true => exact iteT (hb (I.ext e) (T.all_mono (fun _ q => q.up e) q))
    | false => exact iteF (q _ H2 e (.bl false))) (T.all_bind.mp h))⟩
theorem s_or {rest : List Expr} (ha : Snd X a ma) (hb : Snd X (.BoolOp .Or (b :: rest) pos) mb) : Snd X (.BoolOp .Or (a :: b :: rest) pos) (eOr ma mb) := fun {_ _ _ _ _ _ _ _} I h =>
  ⟨_, pe_or pe_wp pe_wp, ha I (T.all_mono (fun d hd v H2 e r => by
    obtain ⟨k, rfl, q⟩ := asB_all (T.all_bind.mp hd)
    refine ⟨k, r.bool, ?_⟩
    cases k with
    | true => exact iteT (q _ H2 e (.bl true))
    | false => exact iteF (hb (I.ext e) (T.all_mono (fun _ q => q.up e) q))) (T.all_bind.mp h))⟩
theorem s_not (ha : Snd X a ma) : Snd X (.UnaryOp .Not a pos) (eNot ma) := fun {_ _ _ _ _ _ _ _} I h =>
  ⟨_, pe_not pe_wp, ha I (T.all_mono (fun d hd v H2 e r => by
    obtain ⟨k, rfl, q⟩ := asB_all (T.all_bind.mp hd)
    exact ⟨k, r.bool, q _ H2 e (.bl _)⟩) (T.all_bind.mp h))⟩
theorem s_if (hc : SndT X c mt) (ha : Snd X a ma) (hb : Snd X b mb) : Snd X (.IfExp c a b pos) (eIf mt ma mb) := fun {_ _ _ _ _ _ _ _} I h =>
  ⟨_, pe_ifExp pt_wp pe_wp pe_wp, hc I (T.all_mono (fun k hk H2 e => by
    cases k with
    | true => exact iteT (ha (I.ext e) (T.all_mono (fun _ q => q.up e) hk))
    | false => exact iteF (hb (I.ext e) (T.all_mono (fun _ q => q.up e) hk))) (T.all_bind.mp h))⟩
theorem sa_nil : SndA X [] aNil := fun {_ _ _ _ _ _ _ _} I h => ⟨_, pa_nil, h _ _ (Ex.refl I.hn.pot) .nil⟩
theorem sa_cons {ms : Rho → T (List D)} (ha : Snd X e m) (hr : SndA X es ms) (hs : starEach (e :: es) X.env = (false, eval e X.env) :: starEach es X.env := by rfl) : SndA X (e :: es) (aCons m ms) := fun {_ _ _ _ _ _ _ _} I h =>
  ⟨_, pa_cons pe_wp pa_wp hs, by
    refine ha I (T.all_mono (fun dx hx => ?_) (T.all_bind.mp h))
    intro v H1 e1 r1
    refine hr (I.ext e1) (T.all_mono (fun dy hy => ?_) (T.all_bind.mp hx))
    intro vs H2 e2 r2
    exact hy _ _ (e1.trans e2) (.cons (r1.mono e2.kp.hide) r2)⟩
theorem small_ok {K : PySem.W.Frag} {P : Program} {w : World} {π : Addr} {H : Hp} {vs : List V} {ds : List D} (r : RvL K P w π H vs ds) (h : small ds = true) : vs.length ≤ sizeLine := by
  rw [r.length]
  exact Nat.le_trans (of_decide_eq_true h) (by decide)
theorem cond_all {α : Type} {P : α → Prop} {b : Bool} {t : T α} (h : (cond b t .fail).all P) : b = true ∧ t.all P := by
  cases b with
  | true => exact ⟨rfl, h⟩
  | false => exact False.elim h
theorem s_tup {x1 ms} (h : SndA X es ms) : Snd X (.Tuple es x1 pos) (eTup ms) := fun {π N0 H0 N H σ ρ Q} I q => ⟨_, pe_tup pa_wp, h I (T.all_mono (fun ds hd vs H2 e r => by
  obtain ⟨hs, hd⟩ := cond_all hd
  refine ⟨small_ok r hs, fun p hp => ?_⟩
  have np := (I.hn.ext e).new hp
  exact hd _ _ (e.trans (Ex.new e.pot hp)) (.tup (hide_new np) (e.pot.ne hp) (r.mono (Ex.new e.pot hp).kp.hide))) (T.all_bind.mp q))⟩
theorem sl_lst {ms} (h : SndA X es ms) : SndL X (.List es pos) (lLst ms) := fun {π N0 H0 N H σ ρ Q} I q => ⟨_, pe_lst pa_wp, h I (T.all_mono (fun ds hd vs H2 e r => by
  obtain ⟨hs, hd⟩ := cond_all hd
  refine ⟨small_ok r hs, fun p hp => ?_⟩
  have hp0 : H p = none := by
    cases c : H p with
    | none => rfl
    | some o => rw [e.kp p o (e.pot.ne hp) c] at hp; cases hp
  exact hd p vs _ (e.trans (Ex.new e.pot hp)) hp0 upd_same (r.mono ((Ex.new e.pot hp).hidden hp))) (T.all_bind.mp q))⟩
/-- a new list as a value -/
theorem s_ofL {ml : Rho → T (List D)} (h : SndL X e ml) : Snd X e (eL ml) := fun {π N0 H0 N H σ ρ Q} I q => h I (T.all_mono (fun ds hd l vs H2 e n h2 r => by
  have lpi := I.hn.pot.ne n
  have nl : N l = false := I.hn.new n
  exact hd (.ref l) H2 e (.lst (by rw [hide_in nl]; exact h2) lpi (r.mono (Kp.less fun a h => plus_old h)))) (T.all_bind.mp q))
end
def spD (K : PySem.W.Frag) (P : Program) (w : World) (n : Nat) (F : List D → T D) : Sp := fun vs H Q _ => ∃ (π : Addr) (N : Addr → Bool) (ds : List D), HN π N H ∧ RvL K P w π (Hide N H) vs ds ∧ vs.length = n ∧
  (F ds).all fun d => ∀ v H', Ex π H H' → Rv K P w π (Hide N H') v d → Q v H'
section
variable {X : Cx} {a b c e : Expr} {es : List Expr} {ma mb m : Rho → T D} {mt mu : Rho → T Bool} {pos : Pos}
theorem s_call {k n : Nat} {f : Addr} {fd : FuncData} {ps : List Str} {F : List D → T D} {x : Str} {p : Pos} {ms : Rho → T (List D)} (G : FnOk X.prog X.w X.K X.mg X.base CX0 k f fd ps (spD X.K X.prog X.w n F)) (hr : Room k X.A) (hm : X.mg x = some (.ref f)) (hk : PySem.W.keepIn X.K (.ref f) = true) (hb : Binds X.K fd ps [])
    (ha : SndA X (e :: es) ms) (hg : Gl X x := by rfl) (hdb : (x == ("__debug__" : Str)) = false := by decide) (he : starEach (e :: es) X.env = (false, eval e X.env) :: starEach es X.env := by rfl) (hpl : (backTo pos (starEach es X.env)).any (·.1) = false := by rfl) :
    Snd X (.Call (.Name x p) (e :: es) [] pos) (eCall n F ms) := fun {π N0 H0 N H σ ρ Q} I h =>
  ⟨_, pe_call G hr hg hm hk hb .nil pass0 pa_wp hdb he hpl, ha I (T.all_mono (fun ds hd vs H2 e1 r => by
    obtain ⟨hn, hd⟩ := cond_all hd
    show spD X.K X.prog X.w n F (vs ++ []) H2 Q E0
    rw [List.append_nil]
    exact ⟨π, N, ds, I.hn.ext e1, r, by rw [r.length]; exact by simpa using hn, T.all_mono (fun d q v H3 e3 r3 => q v H3 (e1.trans e3) r3) hd⟩) (T.all_bind.mp h))⟩
theorem s_callB {id : String} {f : List D → T D} {x : Str} {p : Pos} {ms : Rho → T (List D)} (hc : CaSnd X (.builtin id) f) (hm : X.mg x = none) (hv : bootBuiltins x = some (.builtin id)) (ha : SndA X (e :: es) ms) (hg : Gl X x := by rfl) (hn : x ≠ "__name__" := by decide) (hdb : (x == ("__debug__" : Str)) = false := by decide)
    (he : starEach (e :: es) X.env = (false, eval e X.env) :: starEach es X.env := by rfl) (hpl : (backTo pos (starEach es X.env)).any (·.1) = false := by rfl) : Snd X (.Call (.Name x p) (e :: es) [] pos) (eCa f ms) := fun {_ _ _ _ _ _ _ _} I h =>
  ⟨_, pe_callB ca_wp hg hm hv pa_wp hn hdb he hpl, ha I (T.all_mono (fun ds hd vs H2 e1 r => hc (I.hn.ext e1) r (T.all_mono (fun _ q => q.up e1) hd)) (T.all_bind.mp h))⟩
theorem s_callTy {id : String} {f : List D → T D} {x : Str} {p : Pos} {ms : Rho → T (List D)} (hc : CaSnd X (.type id) f) (hm : X.mg x = none) (hv : bootBuiltins x = some (.type id)) (ha : SndA X (e :: es) ms) (hg : Gl X x := by rfl) (hn : x ≠ "__name__" := by decide) (hdb : (x == ("__debug__" : Str)) = false := by decide)
    (he : starEach (e :: es) X.env = (false, eval e X.env) :: starEach es X.env := by rfl) (hpl : (backTo pos (starEach es X.env)).any (·.1) = false := by rfl) : Snd X (.Call (.Name x p) (e :: es) [] pos) (eCa f ms) := fun {_ _ _ _ _ _ _ _} I h =>
  ⟨_, pe_callTy ca_wp hg hm hv pa_wp hn hdb he hpl, ha I (T.all_mono (fun ds hd vs H2 e1 r => hc (I.hn.ext e1) r (T.all_mono (fun _ q => q.up e1) hd)) (T.all_bind.mp h))⟩
theorem sl_callTy {id : String} {f : List D → T (List D)} {x : Str} {p : Pos} {ms : Rho → T (List D)} (hc : CaSndL X (.type id) f) (hm : X.mg x = none) (hv : bootBuiltins x = some (.type id)) (ha : SndA X (e :: es) ms) (hg : Gl X x := by rfl) (hn : x ≠ "__name__" := by decide) (hdb : (x == ("__debug__" : Str)) = false := by decide)
    (he : starEach (e :: es) X.env = (false, eval e X.env) :: starEach es X.env := by rfl) (hpl : (backTo pos (starEach es X.env)).any (·.1) = false := by rfl) : SndL X (.Call (.Name x p) (e :: es) [] pos) (lCa f ms) := fun {_ _ _ _ _ _ _ _} I h =>
  ⟨_, pe_callTy ca_wp hg hm hv pa_wp hn hdb he hpl, ha I (T.all_mono (fun ds hd vs H2 e1 r => hc (I.hn.ext e1) r (T.all_mono (fun _ q => q.up e1 I.hn.pot) hd)) (T.all_bind.mp h))⟩
end
end Pd
namespace Pd
open PySem L2
mutual
theorem Rv.dp {K : PySem.W.Frag} {P : Program} {w : World} {π : Addr} {N : Addr → Bool} {H : Hp} : ∀ {d : D} {v : V} {p : PyData}, Rv K P w π (Hide N H) v d → d.py = some p → Dp K H v p
  | _, _, _, .non, h => by cases h; exact .non
  | _, _, _, .bl b, h => by cases h; exact .bl b
  | _, _, _, .int b, h => by cases h; exact .int b
  | _, _, _, .str b, h => by cases h; exact .str b
  | .tup ds, _, p, .tup a n r, h => by
    unfold D.py at h
    cases q : D.pys ds with
    | none => rw [q] at h; cases h
    | some ks => rw [q] at h; cases h; exact .tup (.inl (.inl (hide_some a).2)) (RvL.dp r q)
  | .tup ds, _, p, .tupK a r, h => by
    unfold D.py at h
    cases q : D.pys ds with
    | none => rw [q] at h; cases h
    | some ks => rw [q] at h; cases h; exact .tup (a _) (RvL.dp r q)
  | .lst ds, _, p, .lst a n r, h => by
    unfold D.py at h
    cases q : D.pys ds with
    | none => rw [q] at h; cases h
    | some ks => rw [q] at h; cases h; exact .lst (.inl (.inl (hide_some a).2)) (RvL.dp r q)
  | .dic _, _, _, .dic _ _ _, h => by unfold D.py at h; cases h
  | .pot, _, _, .pot, h => by unfold D.py at h; cases h
  | .ins _ _, _, _, .ins _ _ _ _, h => by unfold D.py at h; cases h
  | .fn _, _, _, .fn _ _, h => by unfold D.py at h; cases h
  | .rng _, _, _, .rng _ _, h => by unfold D.py at h; cases h
  | .dik _, _, _, .dik _ _, h => by unfold D.py at h; cases h
  | .clo _ _, _, _, .clo _ _ _ _ _ _ _, h => by unfold D.py at h; cases h
theorem RvL.dp {K : PySem.W.Frag} {P : Program} {w : World} {π : Addr} {N : Addr → Bool} {H : Hp} : ∀ {ds : List D} {vs : List V} {ps : List PyData}, RvL K P w π (Hide N H) vs ds → D.pys ds = some ps → DpAll K H vs ps
  | _, _, _, .nil, h => by unfold D.pys at h; cases h; exact .nil
  | d :: ds, _, ps, .cons r t, h => by
    unfold D.pys at h
    cases q : D.py d with
    | none => rw [q] at h; cases h
    | some k =>
      rw [q] at h
      cases q2 : D.pys ds with
      | none => rw [q2] at h; cases h
      | some ks => rw [q2] at h; cases h; exact .cons (Rv.dp r q) (RvL.dp t q2)
end
def opAdd : D → D → T D
  | .int i, .int j => .ret (.int (i + j))
  | .tup a, .tup b => cond (small (a ++ b)) (.ret (.tup (a ++ b))) .fail
  | .lst a, .lst b => cond (small (a ++ b)) (.ret (.lst (a ++ b))) .fail
  | .str x, .str y => cond (decide (x.length + y.length ≤ 100000)) (.ret (.str (x ++ y))) .fail
  | _, _ => .fail
def opSub : D → D → T D
  | .int i, .int j => .ret (.int (i - j))
  | _, _ => .fail
def lim64 (i : Int) : Bool := decide (-(2 ^ 64) < i) && decide (i < 2 ^ 64)
def rep (k : Nat) (a : List D) : List D := match k with
  | 0 => []
  | k + 1 => a ++ rep k a
def opMul : D → D → T D
  | .int i, .int j => cond (lim64 i || lim64 j) (.ret (.int (i * j))) .fail
  | .tup a, .int k => cond (decide (2 ≤ k) && decide (k ≤ 1000) && decide (a.length ≤ 100) && !a.isEmpty) (.ret (.tup (rep k.toNat a))) .fail
  | _, _ => .fail
def opFDiv : D → D → T D
  | .int i, .int j => cond (decide (0 < j) && decide (j < 1073741824)) (.ret (.int (i / j))) .fail
  | _, _ => .fail
def opMod : D → D → T D
  | .int i, .int j => cond (decide (0 < j)) (.ret (.int (i % j))) .fail
  | _, _ => .fail
def opI (f : Int → Int → Bool) : D → D → T D
  | .int i, .int j => .ret (.bl (f i j))
  | _, _ => .fail
def opLt := opI fun i j => decide (i < j)
def opLe := opI fun i j => decide (i ≤ j)
def opGt := opI fun i j => decide (j < i)
def opGe := opI fun i j => decide (j ≤ i)
def eqD (x y : D) : Option Bool := match x.py, y.py with
  | some p, some q => cond (SeqAt.shaped p && SeqAt.shaped q) (some (PyData.eqv p q)) none
  | _, _ => none
def opEq (x y : D) : T D := match eqD x y with
  | some b => .ret (.bl b)
  | none => .fail
def opNe (x y : D) : T D := match eqD x y with
  | some b => .ret (.bl (!b))
  | none => .fail
theorem eqD_some {x y : D} {b : Bool} (h : eqD x y = some b) : ∃ p q, x.py = some p ∧ y.py = some q ∧ SeqAt.shaped p = true ∧ SeqAt.shaped q = true ∧ PyData.eqv p q = b := by
  unfold eqD at h
  split at h
  · rename_i p q hp hq
    refine ⟨p, q, hp, hq, ?_⟩
    cases c : SeqAt.shaped p && SeqAt.shaped q with
    | false => rw [c] at h; cases h
    | true =>
      rw [c] at h
      have := Bool.and_eq_true_iff.mp c
      exact ⟨this.1, this.2, Option.some.inj h⟩
  · cases h
section
variable {X : Cx}
theorem Kd.new {π : Addr} {N : Addr → Bool} {H : Hp} {Q : VK} {vs : List V} {ds : List D} {p : Addr} (h : Kd X π N H Q (.tup ds)) (hn : HN π N H) (r : RvL X.K X.prog X.w π (Hide N H) vs ds) (hp : H p = none) : Q (.ref p) (upd H p (.tup vs)) :=
  h _ _ (Ex.new hn.pot hp) (.tup (hide_new (hn.new hp)) (hn.pot.ne hp) (r.mono (Ex.new hn.pot hp).kp.hide))
theorem Kd.newL {π : Addr} {N : Addr → Bool} {H : Hp} {Q : VK} {vs : List V} {ds : List D} {p : Addr} (h : Kd X π N H Q (.lst ds)) (hn : HN π N H) (r : RvL X.K X.prog X.w π (Hide N H) vs ds) (hp : H p = none) : Q (.ref p) (upd H p (.lst vs)) :=
  h _ _ (Ex.new hn.pot hp) (.lst (hide_new (hn.new hp)) (hn.pot.ne hp) (r.mono (Ex.new hn.pot hp).kp.hide))
theorem Kl.new {π : Addr} {N : Addr → Bool} {H : Hp} {Q : VK} {vs : List V} {ds : List D} {p : Addr} (h : Kl X π N H Q ds) (hn : HN π N H) (r : RvL X.K X.prog X.w π (Hide N H) vs ds) (hp : H p = none) : Q (.ref p) (upd H p (.lst vs)) :=
  h p vs _ (Ex.new hn.pot hp) hp upd_same (r.mono ((Ex.new hn.pot hp).hidden hp))
theorem RvL.nil_of {K : PySem.W.Frag} {P : Program} {w : World} {π : Addr} {H : Hp} {vs : List V} {ds : List D} (r : RvL K P w π H vs ds) : vs = [] ↔ ds = [] := by
  cases r with
  | nil => simp
  | cons _ _ => simp
theorem os_add : OpSnd X (binaryOp .Add) opAdd := fun {π N H x y dx dy Q} hn rx ry h => by
  unfold opAdd at h
  split at h
  · cases rx; cases ry
    exact ⟨_, op_add, _, _, rfl, rfl, h _ _ (Ex.refl hn.pot) (.int _)⟩
  · obtain ⟨hs, h⟩ := cond_all h
    obtain ⟨a, vs, rfl, ha, ra⟩ := rx.tupE
    obtain ⟨b, us, rfl, hb, rb⟩ := ry.tupE
    have hz : vs.length + us.length ≤ sizeLine := by
      have := small_ok (ra.append rb) hs
      rw [List.length_append] at this
      exact this
    refine ⟨_, op_catA, a, b, vs, us, rfl, rfl, ha, hb, hz, fun e => ?_, fun ne e => ?_, fun ne ne2 p hp => ?_⟩
    · have e' := ra.nil_of.mp e
      refine h _ _ (Ex.refl hn.pot) ?_
      rw [e', List.nil_append]
      exact ry
    · have e' := rb.nil_of.mp e
      refine h _ _ (Ex.refl hn.pot) ?_
      rw [e', List.append_nil]
      exact rx
    · exact Kd.new h hn (ra.append rb) hp
  · obtain ⟨hs, h⟩ := cond_all h
    obtain ⟨a, vs, rfl, ha, _, _, ra⟩ := rx.lstE
    obtain ⟨b, us, rfl, hb, _, _, rb⟩ := ry.lstE
    have hz : vs.length + us.length ≤ sizeLine := by
      have := small_ok (ra.append rb) hs
      rw [List.length_append] at this
      exact this
    exact ⟨_, op_cat, a, b, vs, us, rfl, rfl, ha, hb, hz, fun p hp => Kd.newL h hn (ra.append rb) hp⟩
  · obtain ⟨hs, h⟩ := cond_all h
    cases rx; cases ry
    exact ⟨_, op_add_str, _, _, rfl, rfl, Nat.le_trans (of_decide_eq_true hs) (by decide), h _ _ (Ex.refl hn.pot) (.str _)⟩
  · exact False.elim h
theorem os_sub : OpSnd X (binaryOp .Sub) opSub := fun {π N H x y dx dy Q} hn rx ry h => by
  unfold opSub at h
  split at h
  · cases rx; cases ry
    exact ⟨_, op_sub, _, _, rfl, rfl, h _ _ (Ex.refl hn.pot) (.int _)⟩
  · exact False.elim h
theorem rep_rv {K : PySem.W.Frag} {P : Program} {w : World} {π : Addr} {H : Hp} {vs : List V} {ds : List D} (r : RvL K P w π H vs ds) : ∀ k : Nat, RvL K P w π H (List.replicate k vs).flatten (rep k ds)
  | 0 => .nil
  | k + 1 => by
    show RvL K P w π H (List.replicate (k + 1) vs).flatten (ds ++ rep k ds)
    rw [List.replicate_succ, List.flatten_cons]
    exact r.append (rep_rv r k)
theorem os_mul : OpSnd X (binaryOp .Mult) opMul := fun {π N H x y dx dy Q} hn rx ry h => by
  unfold opMul at h
  split at h
  · cases rx; cases ry
    obtain ⟨hs, h⟩ := cond_all h
    refine ⟨_, op_mul, _, _, rfl, rfl, ?_, h _ _ (Ex.refl hn.pot) (.int _)⟩
    unfold lim64 at hs
    simp only [Bool.or_eq_true, Bool.and_eq_true, decide_eq_true_eq] at hs
    exact hs
  · obtain ⟨hs, h⟩ := cond_all h
    obtain ⟨a, vs, rfl, ha, ra⟩ := rx.tupE
    cases ry
    simp only [Bool.and_eq_true, decide_eq_true_eq, Bool.not_eq_true'] at hs
    obtain ⟨⟨⟨h1, h2⟩, h3⟩, h4⟩ := hs
    refine ⟨_, op_repT, a, _, vs, rfl, rfl, ha, fun e => ?_, h1, h2, by rw [ra.length]; omega, fun p hp => Kd.new h hn (rep_rv ra _) hp⟩
    rw [ra.nil_of.mp e] at h4
    cases h4
  · exact False.elim h
theorem os_fdiv : OpSnd X (binaryOp .FloorDiv) opFDiv := fun {π N H x y dx dy Q} hn rx ry h => by
  unfold opFDiv at h
  split at h
  · cases rx; cases ry
    obtain ⟨hs, h⟩ := cond_all h
    simp only [Bool.and_eq_true, decide_eq_true_eq] at hs
    exact ⟨_, op_fdiv, _, _, rfl, rfl, hs, h _ _ (Ex.refl hn.pot) (.int _)⟩
  · exact False.elim h
theorem os_mod : OpSnd X (binaryOp .Mod) opMod := fun {π N H x y dx dy Q} hn rx ry h => by
  unfold opMod at h
  split at h
  · cases rx; cases ry
    obtain ⟨hs, h⟩ := cond_all h
    simp only [decide_eq_true_eq] at hs
    exact ⟨_, op_mod, _, _, rfl, rfl, hs, h _ _ (Ex.refl hn.pot) (.int _)⟩
  · exact False.elim h
theorem os_I {g : Value → Value → Sem Value} {f : Int → Int → Bool} (hr : OpR X g (rI0 fun i j => .bl (f i j))) : OpSnd X g (opI f) := fun {π N H x y dx dy Q} hn rx ry h => by
  unfold opI at h
  split at h
  · cases rx; cases ry
    exact ⟨_, hr, _, _, rfl, rfl, h _ _ (Ex.refl hn.pot) (.bl _)⟩
  · exact False.elim h
theorem os_lt : OpSnd X (compareOp .Lt) opLt := os_I op_lt
theorem os_le : OpSnd X (compareOp .LtE) opLe := os_I op_le
theorem os_gt : OpSnd X (compareOp .Gt) opGt := os_I op_gt
theorem os_ge : OpSnd X (compareOp .GtE) opGe := os_I op_ge
theorem os_eq (hu : X.A.units + 64 < cLine) : OpSnd X (compareOp .Eq) opEq := fun {π N H x y dx dy Q} hn rx ry h => by
  unfold opEq at h
  split at h
  · rename_i b e
    obtain ⟨p, q, hp, hq, sp, sq, rfl⟩ := eqD_some e
    exact ⟨_, op_eqD hu, p, q, rx.dp hp, ry.dp hq, sp, sq, h _ _ (Ex.refl hn.pot) (.bl _)⟩
  · exact False.elim h
theorem os_ne (hu : X.A.units + 64 < cLine) : OpSnd X (compareOp .NotEq) opNe := fun {π N H x y dx dy Q} hn rx ry h => by
  unfold opNe at h
  split at h
  · rename_i b e
    obtain ⟨p, q, hp, hq, sp, sq, rfl⟩ := eqD_some e
    exact ⟨_, op_neD hu, p, q, rx.dp hp, ry.dp hq, sp, sq, h _ _ (Ex.refl hn.pot) (.bl _)⟩
  · exact False.elim h
def bLen : List D → T D
  | [.tup ds] => .ret (.int ds.length)
  | [.lst ds] => .ret (.int ds.length)
  | _ => .fail
theorem cs_len : CaSnd X (.builtin "len") bLen := fun {π N H xs ds Q} hn r h => by
  unfold bLen at h
  split at h
  · cases r with
    | cons r t =>
      cases t
      obtain ⟨a, vs, rfl, ha, ra⟩ := r.tupE
      exact ⟨_, call_len_seq, a, vs, rfl, .inr ha, by rw [ra.length]; exact h _ _ (Ex.refl hn.pot) (.int _)⟩
  · cases r with
    | cons r t =>
      cases t
      obtain ⟨a, vs, rfl, ha, _, _, ra⟩ := r.lstE
      exact ⟨_, call_len_seq, a, vs, rfl, .inl (.inl (.inl ha)), by rw [ra.length]; exact h _ _ (Ex.refl hn.pot) (.int _)⟩
  · exact False.elim h
def bAbs : List D → T D
  | [.int i] => .ret (.int (if i < 0 then -i else i))
  | _ => .fail
theorem cs_abs : CaSnd X (.builtin "abs") bAbs := fun {π N H xs ds Q} hn r h => by
  unfold bAbs at h
  split at h
  · cases r with
    | cons r t =>
      cases t; cases r
      exact ⟨_, call_abs, _, rfl, h _ _ (Ex.refl hn.pot) (.int _)⟩
  · exact False.elim h
def bTuple : List D → T D
  | [.tup ds] => .ret (.tup ds)
  | [.lst ds] => .ret (.tup ds)
  | _ => .fail
theorem cs_tuple : CaSnd X (.type "tuple") bTuple := fun {π N H xs ds Q} hn r h => by
  unfold bTuple at h
  split at h
  · cases r with
    | cons r t =>
      cases t
      obtain ⟨a, vs, rfl, ha, ra⟩ := id r.tupE
      exact ⟨_, call_tuple_of, a, vs, rfl, .inr ⟨ha, h _ _ (Ex.refl hn.pot) r⟩⟩
  · cases r with
    | cons r t =>
      cases t
      obtain ⟨a, vs, rfl, ha, _, _, ra⟩ := id r.lstE
      exact ⟨_, call_tuple_of, a, vs, rfl, .inl ⟨.inl (.inl ha), fun l hl => Kd.new h hn ra hl⟩⟩
  · exact False.elim h
def bList : List D → T (List D)
  | [.tup ds] => .ret ds
  | [.lst ds] => .ret ds
  | _ => .fail
theorem cs_list : CaSndL X (.type "list") bList := fun {π N H xs ds Q} hn r h => by
  unfold bList at h
  split at h
  · cases r with
    | cons r t =>
      cases t
      obtain ⟨a, vs, rfl, ha, ra⟩ := id r.tupE
      exact ⟨_, call_list_of, a, vs, rfl, .inr ha, fun l hl => Kl.new h hn ra hl⟩
  · cases r with
    | cons r t =>
      cases t
      obtain ⟨a, vs, rfl, ha, _, _, ra⟩ := id r.lstE
      exact ⟨_, call_list_of, a, vs, rfl, .inl (.inl (.inl ha)), fun l hl => Kl.new h hn ra hl⟩
  · exact False.elim h
/-- the bools of a list -/
def bools : List D → Option (List Bool)
  | [] => some []
  | .bl b :: ds => match bools ds with
    | some bs => some (b :: bs)
    | none => none
  | _ => none
theorem bools_rv {K : PySem.W.Frag} {P : Program} {w : World} {π : Addr} {H : Hp} : ∀ {ds : List D} {vs : List V} {bs : List Bool}, RvL K P w π H vs ds → bools ds = some bs → vs = bs.map V.bl
  | _, _, bs, .nil, h => by cases h; rfl
  | .bl b :: ds, _, bs, .cons r t, h => by
    unfold bools at h
    cases q : bools ds with
    | none => rw [q] at h; cases h
    | some cs => rw [q] at h; cases h; rw [bools_rv t q, r.bool]; rfl
  | .int _ :: _, _, _, .cons _ _, h => by cases h
  | .non :: _, _, _, .cons _ _, h => by cases h
  | .str _ :: _, _, _, .cons _ _, h => by cases h
  | .tup _ :: _, _, _, .cons _ _, h => by cases h
  | .lst _ :: _, _, _, .cons _ _, h => by cases h
  | .dic _ :: _, _, _, .cons _ _, h => by cases h
  | .pot :: _, _, _, .cons _ _, h => by cases h
def bAll : List D → T D
  | [.lst ds] => match bools ds with
    | some bs => .ret (.bl (bs.all id))
    | none => .fail
  | _ => .fail
theorem cs_all (hc : X.calm = true) : CaSnd X (.builtin "all") bAll := fun {π N H xs ds Q} hn r h => by
  unfold bAll at h
  split at h
  · cases r with
    | cons r t =>
      cases t
      split at h
      · rename_i bs e
        obtain ⟨a, vs, rfl, ha, _, _, ra⟩ := id r.lstE
        exact ⟨_, cr_all hc, a, bs, rfl, by rw [← bools_rv ra e]; exact .inl (.inl ha), h _ _ (Ex.refl hn.pot) (.bl _)⟩
      · exact False.elim h
  · exact False.elim h
def ixL (ds : List D) (d : D) : T D := match d with
  | .int i => match atI ds i with
    | some d => .ret d
    | none => .fail
  | _ => .fail
def ixD (x d : D) : T D := match x with
  | .tup ds => ixL ds d
  | .lst ds => ixL ds d
  | _ => .fail
theorem ixL_all {P : D → Prop} {ds : List D} {d : D} (h : (ixL ds d).all P) : ∃ i z, d = .int i ∧ atI ds i = some z ∧ P z := by
  cases d with
  | int i =>
    unfold ixL at h
    simp only [] at h
    cases c : atI ds i with
    | none => rw [c] at h; exact False.elim h
    | some z => rw [c] at h; exact ⟨i, z, rfl, c, h⟩
  | _ => exact False.elim h
theorem atI_rv {K : PySem.W.Frag} {P : Program} {w : World} {π : Addr} {H : Hp} {ds : List D} {vs : List V} {i : Int} {d : D} (r : RvL K P w π H vs ds) (h : atI ds i = some d) : ∃ v, atI vs i = some v ∧ Rv K P w π H v d := by
  unfold atI at h ⊢
  rw [r.length]
  obtain ⟨j, hj, h⟩ := Option.bind_eq_some_iff.mp h
  obtain ⟨v, hv, rv⟩ := r.get h
  exact ⟨v, Option.bind_eq_some_iff.mpr ⟨j, hj, hv⟩, rv⟩
variable {a b e : Expr} {ma mb : Rho → T D} {pos : Pos}
def wpIx (X : Cx) : R2 := fun x y H Q => ∃ r, IxR X r ∧ r x y H Q
theorem ix_wp : IxR X (wpIx X) := fun value slice pins s σ H x y v u Q I rx ry ⟨_, h, q⟩ hs => h value slice pins s σ H x y v u Q I rx ry q hs
theorem s_ix (ha : Snd X a ma) (hb : Snd X b mb) (hs : PlainIx b) : Snd X (.Subscript a b pos) (eBin ixD ma mb) := fun {π N0 H0 N H σ ρ Q} I h => ⟨_, pe_ix ix_wp pe_wp pe_wp hs, by
  refine ha I (T.all_mono (fun dx hx => ?_) (T.all_bind.mp h))
  intro v H1 e1 r1
  refine hb (I.ext e1) (T.all_mono (fun dy hy => ?_) (T.all_bind.mp hx))
  intro u H2 e2 r2
  have hn := I.hn.ext (e1.trans e2)
  have r1 := r1.mono e2.kp.hide
  cases dx with
  | tup ds =>
    obtain ⟨i, z, rfl, ez, hy⟩ := ixL_all hy
    cases r2
    obtain ⟨a, vs, rfl, ha, ra⟩ := r1.tupE
    obtain ⟨z', hz, rz⟩ := atI_rv ra ez
    exact ⟨_, ix_tup, a, vs, _, z', rfl, rfl, ha, hz, hy _ _ (e1.trans e2) rz⟩
  | lst ds =>
    obtain ⟨i, z, rfl, ez, hy⟩ := ixL_all hy
    cases r2
    obtain ⟨a, vs, rfl, ha, _, _, ra⟩ := r1.lstE
    obtain ⟨z', hz, rz⟩ := atI_rv ra ez
    exact ⟨_, ix_list, a, vs, _, z', rfl, rfl, .inl (.inl ha), hz, hy _ _ (e1.trans e2) rz⟩
  | _ => exact False.elim hy⟩
/-- an own list's item -/
def ixOwn (i : Nat) (mb : Rho → T D) : Rho → T D := fun ρ => match ρ[i]? with
  | some (.own ds) => (mb ρ).bind fun y => ixL ds y
  | _ => .fail
theorem s_ixOwn (i : Nat) {x : Str} {p : Pos} (hb : Snd X b mb) (hs : PlainIx b) (hN : X.N[i]? = some x := by rfl) (hv : Vis X.env.scope x := by first | exact Or.inl rfl | exact Or.inr (Or.inl rfl) | exact Or.inr (Or.inr rfl)) (hd : (x == ("__debug__" : Str)) = false := by decide)
    (hcd : (x == ("__classdict__" : Str)) = false := by decide) : Snd X (.Subscript (.Name x p) b pos) (ixOwn i mb) := fun {π N0 H0 N H σ ρ Q} I h => by
  unfold ixOwn at h
  split at h
  · rename_i ds c
    obtain ⟨l, vs, hs1, nl, n0, hl, rl⟩ := I.lst i ds c
    refine ⟨_, pe_ix ix_list (pe_var hN hv hd hcd) pe_wp hs, .ref l, hs1, ?_⟩
    refine hb I (T.all_mono (fun dy hy => ?_) (T.all_bind.mp h))
    intro u H2 e2 r2
    obtain ⟨i, z, rfl, ez, hy⟩ := ixL_all hy
    cases r2
    obtain ⟨z', hz, rz⟩ := atI_rv (rl.mono e2.kp.hide) ez
    exact ⟨l, vs, _, z', rfl, rfl, .inl (.inl (e2.kp l _ (N_ne I.hn nl) hl)), hz, hy _ _ e2 rz⟩
  · exact False.elim h
def oNo : Rho → T (Option Int) := fun _ => .ret none
def oPart (m : Rho → T D) : Rho → T (Option Int) := fun ρ => (m ρ).bind fun d => match d with
  | .int i => .ret (some i)
  | _ => .fail
def SndO (X : Cx) (e : Option Expr) (m : Rho → T (Option Int)) : Prop := ∀ ⦃π : Addr⦄ ⦃N0 : Addr → Bool⦄ ⦃H0 : Hp⦄ ⦃N : Addr → Bool⦄ ⦃H : Hp⦄ ⦃σ : L2.St⦄ ⦃ρ : Rho⦄ ⦃Q : Option Int → Hp → Prop⦄, EnvOk X.K X.prog X.w π N0 H0 N H σ ρ → (m ρ).all (fun b => ∀ H2, Ex π H H2 → Q b H2) → ∃ t, PO X e t ∧ t σ H Q
theorem so_no : SndO X none oNo := fun {_ _ _ _ _ _ _ _} I h => ⟨_, po_none, h _ (Ex.refl I.hn.pot)⟩
theorem so_some (ha : Snd X a ma) : SndO X (some a) (oPart ma) := fun {_ _ _ _ _ _ _ _} I h => ⟨_, po_some pe_wp, ha I (T.all_mono (fun d hd v H2 e r => by
  cases d <;> first | exact False.elim hd | (cases r; exact ⟨_, rfl, hd _ e⟩)) (T.all_bind.mp h))⟩
def wpO (X : Cx) (e : Option Expr) : TO := fun σ H Q => ∃ t, PO X e t ∧ t σ H Q
theorem po_wp {e : Option Expr} : PO X e (wpO X e) := ⟨fun pins s σ H Q I ⟨_, h, q⟩ => h.run pins s σ H Q I q⟩
def cutD (xs : List D) (lo hi : Option Int) : List D := (xs.drop (HT.sIx xs.length 0 lo)).take (HT.sIx xs.length xs.length hi - HT.sIx xs.length 0 lo)
def slD (d : D) (lo hi : Option Int) : T D := match d with
  | .tup ds => .ret (.tup (cutD ds lo hi))
  | .lst ds => .ret (.lst (cutD ds lo hi))
  | _ => .fail
def eSl (m : Rho → T D) (ml mh : Rho → T (Option Int)) : Rho → T D := fun ρ => (m ρ).bind fun d => (ml ρ).bind fun l => (mh ρ).bind fun u => slD d l u
theorem cut_rv {K : PySem.W.Frag} {P : Program} {w : World} {π : Addr} {H : Hp} {ds : List D} {vs : List V} {lo hi : Option Int} (r : RvL K P w π H vs ds) : RvL K P w π H (cutV vs lo hi) (cutD ds lo hi) := by
  unfold cutV cutD
  rw [r.length]
  exact (r.drop _).take _
theorem cut_whole {xs : List D} {lo hi : Option Int} (h : HT.sIx xs.length 0 lo = 0 ∧ HT.sIx xs.length xs.length hi = xs.length) : cutD xs lo hi = xs := by
  unfold cutD
  rw [h.1, h.2, List.drop_zero, Nat.sub_zero, List.take_length]
def wpSl (X : Cx) : V → Option Int → Option Int → Hp → VK → Prop := fun x l u H Q => ∃ r, SlR X r ∧ r x l u H Q
theorem sl_wp : SlR X (wpSl X) := fun pins s σ H x v vl vu lo hi sl Q I rx hs pl pu ⟨_, h, q⟩ => h pins s σ H x v vl vu lo hi sl Q I rx hs pl pu q
theorem s_sl {lo hi : Option Expr} {ml mh : Rho → T (Option Int)} {p2 : Pos} (ha : Snd X a ma) (hl : SndO X lo ml) (hh : SndO X hi mh) : Snd X (.Subscript a (.Slice lo hi none p2) pos) (eSl ma ml mh) := fun {π N0 H0 N H σ ρ Q} I h => ⟨_, pe_slice sl_wp pe_wp po_wp po_wp, by
  refine ha I (T.all_mono (fun dx hx => ?_) (T.all_bind.mp h))
  intro v H1 e1 r1
  refine hl (I.ext e1) (T.all_mono (fun l hl => ?_) (T.all_bind.mp hx))
  intro H2 e2
  refine hh (I.ext (e1.trans e2)) (T.all_mono (fun u hu => ?_) (T.all_bind.mp hl))
  intro H3 e3
  have e := (e1.trans e2).trans e3
  have hn := I.hn.ext e
  have r1 := r1.mono (e2.trans e3).kp.hide
  unfold slD at hu
  split at hu
  · obtain ⟨a, vs, rfl, ha, ra⟩ := id r1.tupE
    refine ⟨_, sl_tupA, a, vs, rfl, ha, fun w => ?_, fun w p hp => Kd.new (hu.up e) hn (cut_rv ra) hp⟩
    rw [ra.length] at w
    refine hu _ _ e ?_
    rw [cut_whole w]
    exact r1
  · obtain ⟨a, vs, rfl, ha, _, _, ra⟩ := id r1.lstE
    exact ⟨_, sl_list, a, vs, rfl, .inl (.inl ha), fun p hp => Kd.newL (hu.up e) hn (cut_rv ra) hp⟩
  · exact False.elim hu⟩
end
end Pd
namespace Pd
open PySem L2
inductive Out where
  | nx (ρ : Rho) | rt (d : D) | bk (ρ : Rho) | ct (ρ : Rho)
section
variable (X : Cx)
def OutOk (π : Addr) (N0 : Addr → Bool) (H0 : Hp) (De : Ends) : Out → Prop
  | .nx ρ => ∀ N H σ, EnvOk X.K X.prog X.w π N0 H0 N H σ ρ → De.nx σ H
  | .bk ρ => ∀ N H σ, EnvOk X.K X.prog X.w π N0 H0 N H σ ρ → De.bk σ H
  | .ct ρ => ∀ N H σ, EnvOk X.K X.prog X.w π N0 H0 N H σ ρ → De.ct σ H
  | .rt d => ∀ v H, Ex π H0 H → Rv X.K X.prog X.w π (Hide N0 H) v d → De.rt v H
def SndS (st : Stmt) (m : Rho → T Out) : Prop := ∀ ⦃π : Addr⦄ ⦃N0 : Addr → Bool⦄ ⦃H0 : Hp⦄ ⦃N : Addr → Bool⦄ ⦃H : Hp⦄ ⦃σ : L2.St⦄ ⦃ρ : Rho⦄ ⦃De : Ends⦄, EnvOk X.K X.prog X.w π N0 H0 N H σ ρ → (m ρ).all (OutOk X π N0 H0 De) → wpS X st De σ H
def SndB (sts : List Stmt) (m : Rho → T Out) : Prop := ∀ ⦃π : Addr⦄ ⦃N0 : Addr → Bool⦄ ⦃H0 : Hp⦄ ⦃N : Addr → Bool⦄ ⦃H : Hp⦄ ⦃σ : L2.St⦄ ⦃ρ : Rho⦄ ⦃De : Ends⦄, EnvOk X.K X.prog X.w π N0 H0 N H σ ρ → (m ρ).all (OutOk X π N0 H0 De) → wpSs X sts De σ H
def SndG (tg : Expr) (g : D → Rho → T Rho) : Prop := ∀ ⦃π : Addr⦄ ⦃N0 : Addr → Bool⦄ ⦃H0 : Hp⦄ ⦃N : Addr → Bool⦄ ⦃H : Hp⦄ ⦃σ : L2.St⦄ ⦃ρ : Rho⦄ ⦃v : V⦄ ⦃d : D⦄ ⦃Q : L2.St → Hp → Prop⦄, EnvOk X.K X.prog X.w π N0 H0 N H σ ρ → Rv X.K X.prog X.w π (Hide N H) v d →
  (g d ρ).all (fun ρ' => ∀ σ', EnvOk X.K X.prog X.w π N0 H0 N H σ' ρ' → Q σ' H) → wpG X tg v σ H Q
def SndGs (tgs : List Expr) (g : List D → Rho → T Rho) : Prop := ∀ ⦃π : Addr⦄ ⦃N0 : Addr → Bool⦄ ⦃H0 : Hp⦄ ⦃N : Addr → Bool⦄ ⦃H : Hp⦄ ⦃σ : L2.St⦄ ⦃ρ : Rho⦄ ⦃vs : List V⦄ ⦃ds : List D⦄ ⦃Q : L2.St → Hp → Prop⦄, EnvOk X.K X.prog X.w π N0 H0 N H σ ρ → RvL X.K X.prog X.w π (Hide N H) vs ds →
  (g ds ρ).all (fun ρ' => ∀ σ', EnvOk X.K X.prog X.w π N0 H0 N H σ' ρ' → Q σ' H) → ∃ t, PGs X tgs t ∧ t vs σ H Q
/-- J walks the data ds, wherever what was seen stands -/
def Walk (π : Addr) (B : Hp) (J : It) (ds : List D) : Prop := ∀ (N : Addr → Bool) (H : Hp) (i : Nat), HN π N H → Kp π B (Hide N H) →
  (∀ d, ds[i]? = some d → J.go i H ∧ ∀ x H', J.yld i H x H' → Ex π H H' ∧ Rv X.K X.prog X.w π (Hide N H') x d) ∧ (i = ds.length → J.stop i H)
def SndI (tg it : Expr) (m : Rho → T (List D)) : Prop := ∀ ⦃π : Addr⦄ ⦃N0 : Addr → Bool⦄ ⦃H0 : Hp⦄ ⦃N : Addr → Bool⦄ ⦃H : Hp⦄ ⦃σ : L2.St⦄ ⦃ρ : Rho⦄ ⦃R : It → Hp → Prop⦄, EnvOk X.K X.prog X.w π N0 H0 N H σ ρ →
  (m ρ).all (fun ds => ∀ J H2, Ex π H H2 → Walk X π (Hide N H2) J ds → R J H2) → wpI X tg it σ H R
end
def bNil : Rho → T Out := fun ρ => .ret (.nx ρ)
def bSeq (m1 m2 : Rho → T Out) : Rho → T Out := fun ρ => (m1 ρ).bind fun o => match o with
  | .nx ρ' => m2 ρ'
  | .rt d => .ret (.rt d)
  | .bk ρ' => .ret (.bk ρ')
  | .ct ρ' => .ret (.ct ρ')
def bFreeze (i : Nat) (m : Rho → T Out) : Rho → T Out := fun ρ => match ρ[i]? with
  | some (.own ds) => m (ρ.set i (.val (.lst ds)))
  | _ => m ρ
def sSet (i : Nat) (m : Rho → T D) : Rho → T Out := fun ρ => (m ρ).bind fun d => .ret (.nx (ρ.set i (.val d)))
def sOwn (i : Nat) (m : Rho → T (List D)) : Rho → T Out := fun ρ => (m ρ).bind fun ds => .ret (.nx (ρ.set i (.own ds)))
def sRet (m : Rho → T D) : Rho → T Out := fun ρ => (m ρ).bind fun d => .ret (.rt d)
def sExpr (m : Rho → T D) : Rho → T Out := fun ρ => (m ρ).bind fun _ => .ret (.nx ρ)
def sIf (mt : Rho → T Bool) (m1 m2 : Rho → T Out) : Rho → T Out := fun ρ => (mt ρ).bind fun b => cond b (m1 ρ) (m2 ρ)
def sFail : Rho → T Out := fun _ => .fail
def sApp (i : Nat) (m : Rho → T D) : Rho → T Out := fun ρ => match ρ[i]? with
  | some (.own ds) => (m ρ).bind fun d => cond (small ds) (.ret (.nx (ρ.set i (.own (ds ++ [d]))))) .fail
  | _ => .fail
def sAsg (g : D → Rho → T Rho) (m : Rho → T D) : Rho → T Out := fun ρ => (m ρ).bind fun d => (g d ρ).bind fun ρ' => .ret (.nx ρ')
def gNm (i : Nat) : D → Rho → T Rho := fun d ρ => .ret (ρ.set i (.val d))
def gsNil : List D → Rho → T Rho := fun ds ρ => match ds with
  | [] => .ret ρ
  | _ => .fail
def gsCons (g : D → Rho → T Rho) (gs : List D → Rho → T Rho) : List D → Rho → T Rho := fun ds ρ => match ds with
  | d :: ds => (g d ρ).bind fun ρ' => gs ds ρ'
  | [] => .fail
def gTp (n : Nat) (gs : List D → Rho → T Rho) : D → Rho → T Rho := fun d ρ => match d with
  | .tup ds => cond (ds.length == n) (gs ds ρ) .fail
  | _ => .fail
def forT (body : D → Rho → T Out) : List D → Rho → T Out
  | [], ρ => .ret (.nx ρ)
  | d :: ds, ρ => (body d ρ).bind fun o => match o with
    | .nx ρ' => forT body ds ρ'
    | .ct ρ' => forT body ds ρ'
    | .bk ρ' => .ret (.nx ρ')
    | .rt r => .ret (.rt r)
def sFor (mi : Rho → T (List D)) (g : D → Rho → T Rho) (body : Rho → T Out) : Rho → T Out := fun ρ => (mi ρ).bind fun ds => forT (fun d ρ => (g d ρ).bind body) ds ρ
def whT (mt : Rho → T Bool) (body : Rho → T Out) : Nat → Rho → T Out
  | 0, _ => .fail
  | f + 1, ρ => (mt ρ).bind fun b => cond b ((body ρ).bind fun o => match o with
    | .nx ρ' => whT mt body f ρ'
    | .ct ρ' => whT mt body f ρ'
    | .bk ρ' => .ret (.nx ρ')
    | .rt r => .ret (.rt r)) (.ret (.nx ρ))
section
variable {X : Cx} {st : Stmt} {sts rest : List Stmt} {a b c e : Expr} {ma mb m : Rho → T D} {mt : Rho → T Bool} {m1 m2 : Rho → T Out} {pos : Pos}
theorem b_nil : SndB X [] bNil := fun {_ _ _ _ _ _ _ _} I h => ⟨_, pss_nil, h _ _ _ I⟩
theorem b_cons (h1 : SndS X st m1) (h2 : SndB X rest m2) : SndB X (st :: rest) (bSeq m1 m2) := fun {π N0 H0 N H σ ρ De} I h =>
  ⟨_, pss_cons ps_wp pss_wp, h1 I (T.all_mono (fun o ho => by
    cases o with
    | nx ρ' => exact fun N' H' σ' I' => h2 I' ho
    | rt d => exact ho
    | bk ρ' => exact ho
    | ct ρ' => exact ho) (T.all_bind.mp h))⟩
theorem b_one (h1 : SndS X st m1) : SndB X [st] m1 := fun {_ _ _ _ _ _ _ _} I h => ⟨_, pss_one ps_wp, h1 I h⟩
theorem b_freeze (i : Nat) (h : SndB X sts m1) : SndB X sts (bFreeze i m1) := fun {π N0 H0 N H σ ρ De} I q => by
  unfold bFreeze at q
  split at q
  · obtain ⟨N', I'⟩ := I.freeze (by assumption)
    exact h I' q
  · exact h I q
theorem ss_set {i : Nat} {x : Str} {pos' : Pos} (hN : X.N.Nodup) (he : Snd X e m) (hi : X.N[i]? = some x := by rfl) (hx : Loc X.env.scope x := by first | exact .inl rfl | exact .inr rfl) (hs : swapsWith e (some (.Name x pos')) pos.line X.env = pure false := by rfl) (hf : X.fn x = true ∨ X.env.scope.names.lookup x = some .local := by first | exact .inl rfl | exact .inr rfl) :
    SndS X (.Assign [.Name x pos'] e pos) (sSet i m) := fun {π N0 H0 N H σ ρ De} I h => ⟨_, ps_set hN hi hx pe_wp hs hf, he I (T.all_mono (fun d hd => by intro v H2 e2 r; exact hd _ _ _ ((I.ext e2).set r)) (T.all_bind.mp h))⟩
theorem ss_own {i : Nat} {x : Str} {pos' : Pos} {ml : Rho → T (List D)} (hN : X.N.Nodup) (he : SndL X e ml) (hi : X.N[i]? = some x := by rfl) (hx : Loc X.env.scope x := by first | exact .inl rfl | exact .inr rfl) (hs : swapsWith e (some (.Name x pos')) pos.line X.env = pure false := by rfl) (hf : X.fn x = true ∨ X.env.scope.names.lookup x = some .local := by first | exact .inl rfl | exact .inr rfl) :
    SndS X (.Assign [.Name x pos'] e pos) (sOwn i ml) := fun {π N0 H0 N H σ ρ De} I h => ⟨_, ps_set hN hi hx pe_wp hs hf, he I (T.all_mono (fun ds hd => by intro l vs H2 e2 hl h2 r; exact hd _ _ _ (I.newAny e2 hl (by rw [h2]; exact fun z => by cases z) (.inl ⟨vs, ds, rfl, h2, r⟩))) (T.all_bind.mp h))⟩
theorem EnvOk.ret {π : Addr} {N0 N : Addr → Bool} {H0 H H2 : Hp} {σ : L2.St} {ρ : Rho} {v : V} {d : D} (I : EnvOk X.K X.prog X.w π N0 H0 N H σ ρ) (e : Ex π H H2) (r : Rv X.K X.prog X.w π (Hide N H2) v d) : Ex π H0 H2 ∧ Rv X.K X.prog X.w π (Hide N0 H2) v d :=
  ⟨⟨I.ex.trans e.kp, e.pot⟩, r.mono (Kp.less I.sub)⟩
theorem ss_ret (he : Snd X e m) : SndS X (.Return (some e) pos) (sRet m) := fun {π N0 H0 N H σ ρ De} I h => ⟨_, ps_ret pe_wp, he I (T.all_mono (fun d hd => by intro v H2 e2 r; exact hd v H2 (I.ret e2 r).1 (I.ret e2 r).2) (T.all_bind.mp h))⟩
theorem ss_expr (he : Snd X e m) (hs : swapsWith e none pos.line X.env = pure false := by rfl) : SndS X (.Expr e pos) (sExpr m) := fun {π N0 H0 N H σ ρ De} I h => ⟨_, ps_expr pe_wp hs, he I (T.all_mono (fun d hd => by intro v H2 e2 r; exact hd _ _ _ (I.ext e2)) (T.all_bind.mp h))⟩
theorem ss_if {xs ys : List Stmt} (hc : SndT X c mt) (ha : SndB X xs m1) (hb : SndB X ys m2) : SndS X (.If c xs ys pos) (sIf mt m1 m2) := fun {π N0 H0 N H σ ρ De} I h => ⟨_, ps_if pt_wp pss_wp pss_wp, hc I (T.all_mono (fun k hk H2 e2 => by
  cases k with
  | true => exact iteT (ha (I.ext e2) hk)
  | false => exact iteF (hb (I.ext e2) hk)) (T.all_bind.mp h))⟩
theorem ss_fail : SndS X st sFail := fun {_ _ _ _ _ _ _ _} _ h => False.elim h
theorem ss_app {i : Nat} {x : Str} {p apos cpos : Pos} (he : Snd X e m) (hN : X.N[i]? = some x := by rfl) (hv : Vis X.env.scope x := by first | exact Or.inl rfl | exact Or.inr (Or.inl rfl) | exact Or.inr (Or.inr rfl)) (hd : (x == ("__debug__" : Str)) = false := by decide)
    (hcd : (x == ("__classdict__" : Str)) = false := by decide) (hse : starEach [e] X.env = (false, eval e X.env) :: starEach [] X.env := by rfl) (hpl : (backTo cpos (starEach [] X.env)).any (·.1) = false := by rfl)
    (hs : swapsWith (.Call (.Attribute (.Name x p) "append" apos) [e] [] cpos) none pos.line X.env = pure false := by rfl) (hfew : ((((backTo cpos (starEach [e] X.env)).all fun x => !x.fst) && (backToKw cpos (keywordEach [] X.env)).all fun x => x.fst.isSome) && decide (([e].length + ([] : List Keyword).length + if ([] : List Keyword).isEmpty = true then 0 else 1) < 30)) = true := by rfl) (hline : (apos.endLine == cpos.line) = true := by rfl) : SndS X (.Expr (.Call (.Attribute (.Name x p) "append" apos) [e] [] cpos) pos) (sApp i m) := fun {π N0 H0 N H σ ρ De} I h => by
  unfold sApp at h
  split at h
  · rename_i ds c
    obtain ⟨l, vs, hs1, nl, n0, hl, rl⟩ := I.lst i ds c
    refine ⟨_, ps_expr (pe_bm PySem.F.plainAttrs_list PySem.F.slot_list_append PySem.F.type_list_append mt_append (pe_var hN hv hd hcd) (pa_cons pe_wp pa_nil hse) (hfew := hfew) (hline := hline) (hs := hse) (hplain := hpl)) hs, .ref l, hs1, .inl ⟨rfl, _, SqL.of hl⟩, ?_⟩
    refine he I (T.all_mono (fun d hd => ?_) (T.all_bind.mp h))
    intro v H2 e2 r
    obtain ⟨hsm, hd⟩ := cond_all hd
    have hl2 := e2.kp l _ (N_ne I.hn nl) hl
    refine ⟨l, vs, v, rfl, rfl, hl2, ?_, ?_⟩
    · rw [rl.length]
      exact Nat.lt_of_le_of_lt (of_decide_eq_true hsm) (by decide)
    · exact hd _ _ _ ((I.ext e2).upAny c rfl hs1 nl n0 (.inl ⟨vs ++ [v], ds ++ [d], rfl, rfl, (rl.mono e2.kp.hide).append (.cons r .nil)⟩))
  · exact False.elim h
theorem g_name {i : Nat} {x : Str} (hN : X.N.Nodup) (hi : X.N[i]? = some x := by rfl) (hx : Loc X.env.scope x := by first | exact .inl rfl | exact .inr rfl) (hf : X.fn x = true ∨ X.env.scope.names.lookup x = some .local := by first | exact .inl rfl | exact .inr rfl | assumption) : SndG X (.Name x pos) (gNm i) := fun {_ _ _ _ _ _ _ _ _ _} I r h => ⟨_, pg_name hN hi hx hf, h _ (I.set r)⟩
theorem gs_nil : SndGs X [] gsNil := fun {π N0 H0 N H σ ρ vs ds Q} I r h => by
  cases r with
  | nil => exact ⟨_, pgs_nil, rfl, h _ I⟩
  | cons _ _ => exact False.elim h
theorem gs_cons {es : List Expr} {g : D → Rho → T Rho} {gs : List D → Rho → T Rho} (h1 : SndG X e g) (h2 : SndGs X es gs) (hs : (assignEach (e :: es) X.env).map (·.2) = assign e X.env :: (assignEach es X.env).map (·.2) := by rfl) : SndGs X (e :: es) (gsCons g gs) := fun {π N0 H0 N H σ ρ vs ds Q} I r h => by
  cases r with
  | nil => exact False.elim h
  | cons r t =>
    refine ⟨_, pgs_cons (u := fun vs σ H Q => ∃ t, PGs X es t ∧ t vs σ H Q) pg_wp ⟨fun pins s σ H vs us Q I r ⟨_, h, q⟩ => h.run pins s σ H vs us Q I r q⟩ hs, _, _, rfl, h1 I r (T.all_mono (fun ρ' hρ σ' I' => h2 I' t hρ) (T.all_bind.mp h))⟩
theorem g_tup {es : List Expr} {k n : Nat} {gs : List D → Rho → T Rho} (hc : X.calm = true) (h : SndGs X es gs) (hn : (assignEach es X.env).length = n := by rfl) (hst : (assignEach es X.env).findIdx? (·.1) = none := by rfl) : SndG X (.Tuple es k pos) (gTp n gs) := fun {π N0 H0 N H σ ρ v d Q} I r q => by
  unfold gTp at q
  split at q
  · obtain ⟨hl, q⟩ := cond_all q
    obtain ⟨a, vs, rfl, ha, ra⟩ := id r.tupE
    exact ⟨_, pg_tup (t := fun vs σ H Q => ∃ t, PGs X es t ∧ t vs σ H Q) hc ⟨fun pins s σ H vs us Q I r ⟨_, h, q⟩ => h.run pins s σ H vs us Q I r q⟩ hn hst, a, vs, rfl, ha, by rw [ra.length]; exact by simpa using hl, h I ra q⟩
  · exact False.elim q
theorem ss_asg {tg : Expr} {g : D → Rho → T Rho} (he : Snd X e m) (hg : SndG X tg g) (hs : swapsWithSole [tg] e pos.line X.env = pure false := by rfl) (hw : swappedStores [tg] e X.env = pure none := by rfl)
    (h1 : (assignEach [tg] X.env).map (·.2) = [assign tg X.env] := by rfl) : SndS X (.Assign [tg] e pos) (sAsg g m) := fun {π N0 H0 N H σ ρ De} I h => ⟨_, ps_asg pe_wp pg_wp hs hw h1, he I (T.all_mono (fun d hd => by intro v H2 e2 r; exact hg (I.ext e2) r (T.all_mono (fun ρ' q => by intro σ' I'; exact q _ _ _ I') (T.all_bind.mp hd))) (T.all_bind.mp h))⟩
theorem ss_for {tg it : Expr} {body : List Stmt} {mi : Rho → T (List D)} {g : D → Rho → T Rho} {mbd : Rho → T Out} (hp : PassesOwn (model X.prog X.w) X.A X.env X.xe) (hc : X.calm = true) (hi : SndI X tg it mi) (hg : SndG X tg g) (hb : SndB X body mbd)
    (hs : ∀ x, foldedSetIterable it X.env x = pure x := by intro _; rfl) : SndS X (.For tg it body [] pos) (sFor mi g mbd) := fun {π N0 H0 N H σ ρ De} I h => by
  refine ⟨_, ps_for hp hc pi_wp pg_wp pss_wp hs, hi I (T.all_mono (fun ds hds J H2 e2 wk => ?_) (T.all_bind.mp h))⟩
  have I2 := I.ext e2
  refine ⟨fun i k σ' H' => k = ds.length - i ∧ i ≤ ds.length ∧ ∃ N' ρ', EnvOk X.K X.prog X.w π N0 (baseOf N0 N H2) N' H' σ' ρ' ∧ (forT (fun d ρ => (g d ρ).bind mbd) (ds.drop i) ρ').all (OutOk X π N0 H0 De),
    ⟨ds.length, rfl, Nat.zero_le _, N, ρ, I2.rebase, hds⟩, ?_⟩
  rintro i k σ' H' ⟨rfl, hle, N', ρ', I', hall⟩
  have w := wk N' H' i I'.hn (I2.seen I')
  by_cases hlt : i < ds.length
  · have hget : ds[i]? = some ds[i] := List.getElem?_eq_getElem hlt
    obtain ⟨go, yl⟩ := w.1 _ hget
    rw [List.drop_eq_getElem_cons hlt] at hall
    refine .inr ⟨go, fun σ'' H'' => ∃ N'' ρ'', EnvOk X.K X.prog X.w π N0 (baseOf N0 N H2) N'' H'' σ'' ρ'' ∧ (forT (fun d ρ => (g d ρ).bind mbd) (ds.drop (i + 1)) ρ'').all (OutOk X π N0 H0 De), fun σ'' H'' q => ⟨ds.length - (i + 1), by omega, rfl, hlt, q⟩, fun x H'' y => ?_⟩
    obtain ⟨e3, rx⟩ := yl x H'' y
    refine hg (I'.ext e3) rx (T.all_mono (fun ρ2 h2 σ2 I3 => ?_) (T.all_bind.mp (T.all_bind.mp hall)))
    refine hb I3 (T.all_mono (fun o ho => ?_) h2)
    cases o with
    | nx ρ3 => exact fun N4 H4 σ4 I4 => ⟨N4, ρ3, I4, ho⟩
    | ct ρ3 => exact fun N4 H4 σ4 I4 => ⟨N4, ρ3, I4, ho⟩
    | bk ρ3 => exact fun N4 H4 σ4 I4 => ho N4 H4 σ4 (I2.unbase I4)
    | rt d => exact fun v H4 e4 r4 => ho v H4 ⟨I2.base_kp.trans e4.kp, e4.pot⟩ r4
  · have e : i = ds.length := by omega
    subst e
    rw [List.drop_length] at hall
    exact .inl ⟨w.2 rfl, hall _ _ _ (I2.unbase I')⟩
theorem ss_while {body : List Stmt} {mbd : Rho → T Out} (f : Nat) (hp : PassesOwn (model X.prog X.w) X.A X.env X.xe) (hc : SndT X c mt) (hb : SndB X body mbd) : SndS X (.While c body [] pos) (whT mt mbd f) := fun {π N0 H0 N H σ ρ De} I h => by
  refine ⟨_, ps_while hp pt_wp pss_wp, fun k σ' H' => ∃ N' ρ', EnvOk X.K X.prog X.w π N0 H0 N' H' σ' ρ' ∧ (whT mt mbd k ρ').all (OutOk X π N0 H0 De), ⟨f, N, ρ, I, h⟩, ?_⟩
  rintro k σ' H' ⟨N', ρ', I', h'⟩
  cases k with
  | zero => exact False.elim h'
  | succ k =>
    refine hc I' (T.all_mono (fun b hb' H2 e2 => ?_) (T.all_bind.mp h'))
    cases b with
    | false => exact iteF (hb' _ _ _ (I'.ext e2))
    | true =>
      refine iteT ⟨fun σ'' H'' => ∃ N'' ρ'', EnvOk X.K X.prog X.w π N0 H0 N'' H'' σ'' ρ'' ∧ (whT mt mbd k ρ'').all (OutOk X π N0 H0 De), fun σ'' H'' q => ⟨k, Nat.lt_succ_self k, q⟩, ?_⟩
      refine hb (I'.ext e2) (T.all_mono (fun o ho => ?_) (T.all_bind.mp hb'))
      cases o with
      | nx ρ3 => exact fun N4 H4 σ4 I4 => ⟨N4, ρ3, I4, ho⟩
      | ct ρ3 => exact fun N4 H4 σ4 I4 => ⟨N4, ρ3, I4, ho⟩
      | bk ρ3 => exact fun N4 H4 σ4 I4 => ho N4 H4 σ4 I4
      | rt d => exact ho
end
end Pd
namespace Pd
open PySem L2 RZ
def asL : D → T (List D)
  | .lst ds => .ret ds
  | _ => .fail
def asTp : D → T (List D)
  | .tup ds => .ret ds
  | _ => .fail
def iLst (m : Rho → T D) : Rho → T (List D) := fun ρ => (m ρ).bind asL
def iTp (m : Rho → T D) : Rho → T (List D) := fun ρ => (m ρ).bind asTp
def upto (lo : Int) : Nat → List D
  | 0 => []
  | n + 1 => .int lo :: upto (lo + 1) n
theorem upto_len : ∀ (lo : Int) (n : Nat), (upto lo n).length = n
  | _, 0 => rfl
  | lo, n + 1 => congrArg Nat.succ (upto_len (lo + 1) n)
theorem upto_get : ∀ {lo : Int} {n i : Nat} {d : D}, (upto lo n)[i]? = some d → i < n ∧ d = .int (lo + i)
  | _, 0, _, _, h => by cases h
  | lo, n + 1, 0, d, h => by
    cases h
    exact ⟨Nat.succ_pos n, by simp⟩
  | lo, n + 1, i + 1, d, h => by
    obtain ⟨a, b⟩ := upto_get (lo := lo + 1) (n := n) (i := i) h
    refine ⟨Nat.succ_lt_succ a, ?_⟩
    rw [b]
    congr 1
    omega
def rng1 : List D → T (List D)
  | [.int j] => cond (decide (j ≤ 100000) && decide (-100000 ≤ j)) (.ret (upto 0 j.toNat)) .fail
  | _ => .fail
def iRg (f : List D → T (List D)) (ms : Rho → T (List D)) : Rho → T (List D) := fun ρ => (ms ρ).bind f
def compT (g : D → Rho → T Rho) (mt : Rho → T Bool) (me : Rho → T D) (ρ : Rho) : List D → List D → T (List D)
  | [], acc => .ret acc
  | d :: ds, acc => (g d ρ).bind fun ρ2 => (mt ρ2).bind fun b => cond b ((me ρ2).bind fun y => cond (small acc) (compT g mt me ρ ds (acc ++ [y])) .fail) (compT g mt me ρ ds acc)
def wipeR (ρ : Rho) : List Nat → Rho
  | [] => ρ
  | v :: vs => (wipeR ρ vs).set v .un
def yesT : Rho → T Bool := fun _ => .ret true
def lComp (vs : List Nat) (mi : Rho → T (List D)) (g : D → Rho → T Rho) (mt : Rho → T Bool) (me : Rho → T D) : Rho → T (List D) := fun ρ => (mi ρ).bind fun ds => compT g mt me (wipeR ρ vs) ds []
section
variable {X : Cx} {a b c e : Expr} {es : List Expr} {m ma mb : Rho → T D} {pos : Pos} {tg : Expr}
theorem vis_some {π : Addr} {N N' : Addr → Bool} {H H' : Hp} {a : Addr} {o : HO} (k : Kp π (Hide N H) (Hide N' H')) (na : N a = false) (ne : a ≠ π) (h : H a = some o) : N' a = false ∧ H' a = some o := by
  have := k a o ne (by rw [hide_in na]; exact h)
  exact hide_some this
theorem walk_list {π : Addr} {N : Addr → Bool} {H : Hp} {a : Addr} {vs : List V} {ds : List D} (ha : H a = some (.lst vs)) (na : N a = false) (ne : a ≠ π) (r : RvL X.K X.prog X.w π (Hide N H) vs ds) : Walk X π (Hide N H) (Itl X.K a) ds := fun N' H' i hn k => by
  obtain ⟨n', h'⟩ := vis_some k na ne ha
  have sq : SqL X.K H' a vs := .inl (.inl h')
  refine ⟨fun d hd => ?_, fun e => ⟨vs, sq, by rw [r.length, e]; exact Nat.le_refl _⟩⟩
  obtain ⟨v, hv, rv⟩ := r.get hd
  refine ⟨⟨vs, v, sq, hv⟩, fun x H2 y => ?_⟩
  obtain ⟨rfl, y⟩ := y
  have := y vs sq
  rw [hv] at this
  cases this
  exact ⟨Ex.refl hn.pot, rv.mono k⟩
theorem si_list (ha : Snd X a m) : SndI X tg a (iLst m) := fun {π N0 H0 N H σ ρ R} I h => ⟨_, pi_list pe_wp, ha I (T.all_mono (fun d hd => by
  intro v H2 e2 r
  cases d with
  | lst ds =>
    obtain ⟨a, vs, rfl, ha, na, ne, ra⟩ := id r.lstE
    exact ⟨a, rfl, ⟨vs, .inl (.inl ha)⟩, hd _ _ e2 (walk_list ha na ne ra)⟩
  | _ => exact False.elim hd) (T.all_bind.mp h))⟩
theorem sqt_kp {π : Addr} {N N' : Addr → Bool} {H H' : Hp} {v : V} {ds : List D} (k : Kp π (Hide N H) (Hide N' H')) (r : Rv X.K X.prog X.w π (Hide N H) v (.tup ds)) : ∃ a vs, v = .ref a ∧ SqT X.K H a vs ∧ SqT X.K H' a vs ∧ RvL X.K X.prog X.w π (Hide N H) vs ds ∧ RvL X.K X.prog X.w π (Hide N' H') vs ds := by
  cases r with
  | tup h n r =>
    obtain ⟨na, h1⟩ := hide_some h
    exact ⟨_, _, rfl, .inl (.inl h1), .inl (.inl (vis_some k na n h1).2), r, r.mono k⟩
  | tupK h r => exact ⟨_, _, rfl, h _, h _, r, r.mono k⟩
theorem walk_tup {π : Addr} {N : Addr → Bool} {H : Hp} {a : Addr} {ds : List D} (r : Rv X.K X.prog X.w π (Hide N H) (.ref a) (.tup ds)) : Walk X π (Hide N H) (Itt X.K a) ds := fun N' H' i hn k => by
  obtain ⟨a', vs, e, _, sq, _, ra⟩ := sqt_kp k r
  cases e
  refine ⟨fun d hd => ?_, fun e => ⟨vs, sq, by rw [ra.length, e]; exact Nat.le_refl _⟩⟩
  obtain ⟨v, hv, rv⟩ := ra.get hd
  refine ⟨⟨vs, v, sq, hv⟩, fun x H2 y => ?_⟩
  obtain ⟨rfl, y⟩ := y
  have := y vs sq
  rw [hv] at this
  cases this
  exact ⟨Ex.refl hn.pot, rv⟩
theorem si_tup (ha : Snd X a m) : SndI X tg a (iTp m) := fun {π N0 H0 N H σ ρ R} I h => ⟨_, pi_tup pe_wp, ha I (T.all_mono (fun d hd => by
  intro v H2 e2 r
  cases d with
  | tup ds =>
    obtain ⟨a, vs, rfl, ha, ra⟩ := id r.tupE
    exact ⟨a, rfl, ⟨vs, ha⟩, hd _ _ e2 (walk_tup r)⟩
  | _ => exact False.elim hd) (T.all_bind.mp h))⟩
theorem walk_range {π : Addr} {B : Hp} {lo : Int} {n : Nat} : Walk X π B (Itr lo n) (upto lo n) := fun N' H' i hn k => by
  refine ⟨fun d hd => ?_, fun e => by show n ≤ i; rw [e, upto_len]; exact Nat.le_refl _⟩
  obtain ⟨hi, rfl⟩ := upto_get hd
  refine ⟨hi, fun x H2 y => ?_⟩
  obtain ⟨rfl, rfl⟩ := y
  exact ⟨Ex.refl hn.pot, .int _⟩
theorem si_range1 {ms : Rho → T (List D)} {p : Pos} (hm : X.mg "range" = none) (ha : SndA X [a] ms) (hg : Gl X "range" := by rfl) (hs : starEach [a] X.env = [(false, eval a X.env)] := by rfl) : SndI X tg (.Call (.Name "range" p) [a] [] pos) (iRg rng1 ms) := fun {π N0 H0 N H σ ρ R} I h =>
  ⟨_, pi_range1 hg hm pa_wp hs, ha I (T.all_mono (fun ds hd => by
    intro vs H2 e2 r
    unfold rng1 at hd
    split at hd
    · obtain ⟨hb, hd⟩ := cond_all hd
      simp only [Bool.and_eq_true, decide_eq_true_eq] at hb
      cases r with
      | cons r t =>
        cases t; cases r
        exact ⟨_, rfl, by omega, by omega, hd _ _ e2 walk_range⟩
    · exact False.elim hd) (T.all_bind.mp h))⟩
theorem wipe_ok {K : PySem.W.Frag} {P : Program} {w : World} {π : Addr} {N0 N : Addr → Bool} {H0 H : Hp} {σ : L2.St} {ρ : Rho} (I : EnvOk K P w π N0 H0 N H σ ρ) : ∀ vs : List Nat, EnvOk K P w π N0 H0 N H (wipe σ vs) (wipeR ρ vs)
  | [] => I
  | v :: vs => (wipe_ok I vs).wipe1
/-- the readings of a comprehension's pieces -/
def bE (X : Cx) (scope : Scope) (e : Expr) : TE := fun σ H Q => ∀ (s : Shared) (Hh : Hp) (C : Addr) (cl : List (Str × Addr)) (fp : List Addr), wpE (X.blk s Hh scope (compEnvC scope cl C X.env) fp) e σ H Q
def bG (X : Cx) (scope : Scope) (e : Expr) : TG := fun v σ H Q => ∀ (s : Shared) (Hh : Hp) (C : Addr) (cl : List (Str × Addr)) (fp : List Addr), wpG (X.blk s Hh scope (compEnvC scope cl C X.env) fp) e v σ H Q
def wpTs (X : Cx) (ifs : List Expr) : TT := fun σ H Q => ∃ te, PTs X ifs te ∧ te σ H Q
theorem pts_wp {ifs : List Expr} : PTs X ifs (wpTs X ifs) := ⟨fun pins s σ H Q I ⟨_, h, q⟩ => h.run pins s σ H Q I q⟩
def bT (X : Cx) (scope : Scope) (ifs : List Expr) : TT := fun σ H Q => ∀ (s : Shared) (Hh : Hp) (C : Addr) (cl : List (Str × Addr)) (fp : List Addr), wpTs (X.blk s Hh scope (compEnvC scope cl C X.env) fp) ifs σ H Q
def SndTs (X : Cx) (ifs : List Expr) (m : Rho → T Bool) : Prop := ∀ ⦃π : Addr⦄ ⦃N0 : Addr → Bool⦄ ⦃H0 : Hp⦄ ⦃N : Addr → Bool⦄ ⦃H : Hp⦄ ⦃σ : L2.St⦄ ⦃ρ : Rho⦄ ⦃Q : Bool → Hp → Prop⦄, EnvOk X.K X.prog X.w π N0 H0 N H σ ρ → (m ρ).all (fun b => ∀ H2, Ex π H H2 → Q b H2) → wpTs X ifs σ H Q
theorem ts_nil : SndTs X [] yesT := fun {_ _ _ _ _ _ _ _} I h => ⟨_, pts_nil, h _ (Ex.refl I.hn.pot)⟩
theorem EnvOk.hideNew {K : PySem.W.Frag} {P : Program} {w : World} {π : Addr} {N0 N : Addr → Bool} {H0 H H' : Hp} {σ : L2.St} {ρ : Rho} {l : Addr} {vs : List V} (I : EnvOk K P w π N0 H0 N H σ ρ) (e : Ex π H H') (hl : H l = none) (hl' : H' l = some (.lst vs)) (r : ∃ ds, RvL K P w π (Hide (plus N l) H') vs ds) : EnvOk K P w π N0 H0 (plus N l) H' σ ρ := by
  obtain ⟨ds, r⟩ := r
  have J := I.newAny (i := σ.length) (x := .own ds) e hl (by rw [hl']; exact fun z => by cases z) (.inl ⟨vs, ds, rfl, hl', r⟩)
  rw [List.set_eq_of_length_le (Nat.le_refl _), List.set_eq_of_length_le (by rw [I.len]; exact Nat.le_refl _)] at J
  exact J
/-- a hidden list that no name holds changes -/
theorem EnvOk.upHid {K : PySem.W.Frag} {P : Program} {w : World} {π : Addr} {N0 N : Addr → Bool} {H0 H : Hp} {σ : L2.St} {ρ : Rho} {l : Addr} {o : HO} (I : EnvOk K P w π N0 H0 N H σ ρ) (nl : N l = true) (n0 : N0 l = false)
    (no : ∀ (j : Nat) (f : Ent) (l' : Addr), ρ[j]? = some f → f.isOwn = true → σ[j]? = some (some (.ref l')) → l' ≠ l) : EnvOk K P w π N0 H0 N (upd H l o) σ ρ := by
  have lpi := N_ne I.hn nl
  have e : Hide N (upd H l o) = Hide N H := by
    funext a
    by_cases q : a = l
    · subst q; simp [Hide, nl]
    · unfold Hide; rw [upd_ne q]
  refine ⟨⟨?_, I.hn.npi, fun a h => ?_⟩, fun a u n h => ?_, I.sub, I.own0, I.len, fun j d h => ?_, fun j x h xo => ?_, I.inj⟩
  · obtain ⟨x, y, q, r⟩ := I.hn.pot
    exact ⟨x, y, by rw [upd_ne lpi.symm]; exact q, r⟩
  · by_cases q : a = l
    · subst q; rw [upd_same]; exact fun z => by cases z
    · rw [upd_ne q]; exact I.hn.isS a h
  · by_cases q : a = l
    · subst q
      rcases I.own0 a nl with z | z
      · rw [n0] at z; cases z
      · rw [z] at h; cases h
    · rw [upd_ne q]; exact I.ex a u n h
  · rw [e]; exact I.val j d h
  · rw [e]
    obtain ⟨l', o', a, n, n1, b, c⟩ := I.own j x h xo
    exact ⟨l', o', a, n, n1, by rw [upd_ne (no j _ l' h xo a)]; exact b, c⟩
theorem wipe_at {j : Nat} : ∀ (vs : List Nat) (τ τ' : L2.St), τ.length = τ'.length → j ∈ vs → (wipe τ vs)[j]? = (wipe τ' vs)[j]?
  | [], _, _, _, h => by cases h
  | u :: us, τ, τ', hl, hm => by
    unfold wipe
    by_cases q2 : u = j
    · subst q2
      by_cases c : u < (wipe τ us).length
      · rw [List.getElem?_set_self c, List.getElem?_set_self (by rw [wipe_length] at c ⊢; omega)]
      · rw [List.getElem?_eq_none (by rw [List.length_set]; omega), List.getElem?_eq_none (by rw [List.length_set]; rw [wipe_length] at c ⊢; omega)]
    · rw [List.getElem?_set_ne q2, List.getElem?_set_ne q2]
      exact wipe_at us τ τ' hl (by
        rcases List.mem_cons.mp hm with e | e
        · exact absurd e.symm q2
        · exact e)
theorem wipe_ext {vs : List Nat} {τ τ' : L2.St} (hl : τ.length = τ'.length) (h : ∀ j : Nat, j ∉ vs → τ[j]? = τ'[j]?) : wipe τ vs = wipe τ' vs := by
  refine List.ext_getElem? fun j => ?_
  by_cases c : j ∈ vs
  · exact wipe_at vs τ τ' hl c
  · rw [wipe_out c, wipe_out c]
    exact h j c
theorem wipe_wipe {vs : List Nat} {σ : L2.St} : wipe (wipe σ vs) vs = wipe σ vs := wipe_ext (wipe_length _ _) fun j hj => wipe_out hj
theorem wipe_set {vs : List Nat} {σ : L2.St} {i : Nat} {x : Option V} (hi : i ∈ vs) : wipe (σ.set i x) vs = wipe σ vs := wipe_ext (by rw [List.length_set]) fun j hj => List.getElem?_set_ne fun e => hj (by rw [← e]; exact hi)
/-- a comprehension's target: its own names alone are stored -/
def SndGw (X : Cx) (vs : List Nat) (tg : Expr) (g : D → Rho → T Rho) : Prop := ∀ ⦃π : Addr⦄ ⦃N0 : Addr → Bool⦄ ⦃H0 : Hp⦄ ⦃N : Addr → Bool⦄ ⦃H : Hp⦄ ⦃σ : L2.St⦄ ⦃ρ : Rho⦄ ⦃v : V⦄ ⦃d : D⦄ ⦃Q : L2.St → Hp → Prop⦄, EnvOk X.K X.prog X.w π N0 H0 N H σ ρ → Rv X.K X.prog X.w π (Hide N H) v d →
  (g d ρ).all (fun ρ' => ∀ σ', EnvOk X.K X.prog X.w π N0 H0 N H σ' ρ' → Q σ' H) → wpG X tg v σ H fun σ' H' => wipe σ' vs = wipe σ vs ∧ Q σ' H'
theorem gw_name {i : Nat} {x : Str} {vs : List Nat} (hN : X.N.Nodup) (hm : i ∈ vs) (hi : X.N[i]? = some x := by rfl) (hx : Loc X.env.scope x := by first | exact .inl rfl | exact .inr rfl) (hf : X.fn x = true ∨ X.env.scope.names.lookup x = some .local := by first | exact .inl rfl | exact .inr rfl | assumption) : SndGw X vs (.Name x pos) (gNm i) := fun {_ _ _ _ _ _ _ _ _ _} I r h => ⟨_, pg_name hN hi hx hf, wipe_set hm, h _ (I.set r)⟩
theorem wpG_mono {e : Expr} {v : V} {σ : L2.St} {H : Hp} {Q Q' : L2.St → Hp → Prop} (h : wpG X e v σ H Q) (k : ∀ a b, Q a b → Q' a b) : wpG X e v σ H Q' := by
  obtain ⟨t, p, q⟩ := h
  exact ⟨fun v σ H Q => ∃ Q0, (∀ a b, Q0 a b → Q a b) ∧ t v σ H Q0, ⟨fun pins s σ H v u Q I r ⟨Q0, k, q⟩ => thn (p.run pins s σ H v u Q0 I r q) fun _ s' ⟨σ', H', I', z⟩ => ⟨σ', H', I', k _ _ z⟩⟩, Q, k, q⟩
/-- SndG in a comprehension: its own names alone are stored -/
theorem lc_run {π : Addr} {N0 N : Addr → Bool} {H0 H : Hp} {σ : L2.St} {ρ : Rho} {Q : VK} {tg it elt : Expr} {ifs : List Expr} {scope : Scope} {vs : List Nat} {mi : Rho → T (List D)} {g : D → Rho → T Rho} {mt : Rho → T Bool} {me : Rho → T D}
    (hi : SndI X tg it mi) (hg : ∀ s Hh C cl fp, SndGw (X.blk s Hh scope (compEnvC scope cl C X.env) fp) vs tg g) (ht : ∀ s Hh C cl fp, SndTs (X.blk s Hh scope (compEnvC scope cl C X.env) fp) ifs mt) (he : ∀ s Hh C cl fp, Snd (X.blk s Hh scope (compEnvC scope cl C X.env) fp) elt me)
    (I : EnvOk X.K X.prog X.w π N0 H0 N H σ ρ) (h : (lComp vs mi g mt me ρ).all (Kl X π N H Q)) : tLc (wpI X tg it) (bG X scope tg) (bT X scope ifs) (bE X scope elt) vs σ H Q := by
  refine hi I (T.all_mono (fun ds hds J H2 e2 wk => ?_) (T.all_bind.mp h))
  intro Dl hD
  have I2 := I.ext e2
  have hD0 : H Dl = none := by
    cases c : H Dl with
    | none => rfl
    | some o => rw [e2.kp Dl o (I2.hn.pot.ne hD) c] at hD; cases hD
  have eN : Ex π H2 (upd H2 Dl (.lst [])) := Ex.new I2.hn.pot hD
  have dpi := I2.hn.pot.ne hD
  have I3 : EnvOk X.K X.prog X.w π N0 H0 (plus N Dl) (upd H2 Dl (.lst [])) (wipe σ vs) (wipeR ρ vs) := wipe_ok (I2.hideNew eN hD upd_same ⟨[], .nil⟩) vs
  have n0 : N0 Dl = false := by
    cases c : N0 Dl with
    | false => rfl
    | true =>
      have := I2.hn.new hD
      rw [I2.sub Dl c] at this
      cases this
  -- no name holds the new list
  have no : ∀ (j : Nat) (f : Ent) (l' : Addr), (wipeR ρ vs)[j]? = some f → f.isOwn = true → (wipe σ vs)[j]? = some (some (.ref l')) → l' ≠ Dl := fun j f l' h1 o1 s1 => by
    have W := wipe_ok I2 vs
    have nD : ∀ {o : HO}, H2 l' = some o → l' ≠ Dl := fun {o} h z => by rw [z, hD] at h; cases h
    obtain ⟨l2, o2, a, _, _, b, _⟩ := W.own j f h1 o1
    rw [s1] at a
    cases a
    exact nD b
  refine ⟨fun i k H' => k = ds.length - i ∧ i ≤ ds.length ∧ ∃ acc accD, EnvOk X.K X.prog X.w π N0 H0 (plus N Dl) H' (wipe σ vs) (wipeR ρ vs) ∧ Kp π H2 H' ∧ H' Dl = some (.lst acc) ∧ RvL X.K X.prog X.w π (Hide (plus N Dl) H') acc accD ∧ (compT g mt me (wipeR ρ vs) (ds.drop i) accD).all (Kl X π N H Q),
    ⟨ds.length, rfl, Nat.zero_le _, [], [], I3, eN.kp, upd_same, .nil, hds⟩, ?_⟩
  rintro i k H' ⟨rfl, hle, acc, accD, I', kp, hDl, rl, hall⟩
  have vis : Kp π (Hide N H2) (Hide (plus N Dl) H') := fun a o n q => by
    obtain ⟨na, ha⟩ := hide_some q
    have ne : a ≠ Dl := fun z => by rw [z, hD] at ha; cases ha
    rw [hide_in (by simp [plus, na, ne])]
    exact kp a o n ha
  have w := wk (plus N Dl) H' i I'.hn vis
  by_cases hlt : i < ds.length
  · have hget : ds[i]? = some ds[i] := List.getElem?_eq_getElem hlt
    obtain ⟨go, yl⟩ := w.1 _ hget
    rw [List.drop_eq_getElem_cons hlt] at hall
    refine .inr ⟨go, fun H'' => ∃ acc accD, EnvOk X.K X.prog X.w π N0 H0 (plus N Dl) H'' (wipe σ vs) (wipeR ρ vs) ∧ Kp π H2 H'' ∧ H'' Dl = some (.lst acc) ∧ RvL X.K X.prog X.w π (Hide (plus N Dl) H'') acc accD ∧ (compT g mt me (wipeR ρ vs) (ds.drop (i + 1)) accD).all (Kl X π N H Q), fun H'' q => ⟨ds.length - (i + 1), by omega, rfl, hlt, q⟩, fun x H'' y => ?_⟩
    obtain ⟨e3, rx⟩ := yl x H'' y
    have I4 := I'.ext e3
    refine fun s Hh C cl fp => wpG_mono (hg s Hh C cl fp (Q := fun σ2 H2' => bT X scope ifs σ2 H2' fun b H3 => if b = true then bE X scope elt σ2 H3 fun y H4 => ∃ acc, H4 Dl = some (.lst acc) ∧ acc.length < sizeLine ∧
      (∃ acc' accD, EnvOk X.K X.prog X.w π N0 H0 (plus N Dl) (upd H4 Dl (.lst (acc ++ [y]))) (wipe σ vs) (wipeR ρ vs) ∧ Kp π H2 (upd H4 Dl (.lst (acc ++ [y]))) ∧ (upd H4 Dl (.lst (acc ++ [y]))) Dl = some (.lst acc') ∧ RvL X.K X.prog X.w π (Hide (plus N Dl) (upd H4 Dl (.lst (acc ++ [y])))) acc' accD ∧ (compT g mt me (wipeR ρ vs) (ds.drop (i + 1)) accD).all (Kl X π N H Q))
      else ∃ acc' accD, EnvOk X.K X.prog X.w π N0 H0 (plus N Dl) H3 (wipe σ vs) (wipeR ρ vs) ∧ Kp π H2 H3 ∧ H3 Dl = some (.lst acc') ∧ RvL X.K X.prog X.w π (Hide (plus N Dl) H3) acc' accD ∧ (compT g mt me (wipeR ρ vs) (ds.drop (i + 1)) accD).all (Kl X π N H Q))
      (I4 : EnvOk X.K X.prog X.w π N0 H0 (plus N Dl) H'' (wipe σ vs) (wipeR ρ vs)) rx (T.all_mono (fun ρ2 h2 => ?_) (T.all_bind.mp hall))) fun σ' H' q => ⟨q.1.trans wipe_wipe, q.2⟩
    intro σ2 I5 s Hh C cl fp
    refine ht s Hh C cl fp I5 (T.all_mono (fun b hb => ?_) (T.all_bind.mp h2))
    intro H5 e5
    have e35 := e3.trans e5
    cases b with
    | false => exact iteF ⟨acc, accD, I4.ext e5, kp.trans e35.kp, e35.kp Dl _ dpi hDl, rl.mono e35.kp.hide, hb⟩
    | true =>
      refine iteT fun s Hh C cl fp => he s Hh C cl fp (I5.ext e5 : EnvOk X.K X.prog X.w π N0 H0 (plus N Dl) H5 σ2 ρ2) (T.all_mono (fun y hy => ?_) (T.all_bind.mp hb))
      intro v H6 e6 rv
      obtain ⟨hsm, hy⟩ := cond_all hy
      have e36 := e35.trans e6
      have hD6 := e36.kp Dl _ dpi hDl
      have hd : Hide (plus N Dl) (upd H6 Dl (.lst (acc ++ [v]))) = Hide (plus N Dl) H6 := by
        funext a
        by_cases q : a = Dl
        · subst q; simp [Hide, plus]
        · unfold Hide; rw [upd_ne q]
      refine ⟨acc, hD6, by rw [rl.length]; exact Nat.lt_of_le_of_lt (of_decide_eq_true hsm) (by decide), acc ++ [v], accD ++ [y], ((I4.ext (e5.trans e6)).upHid plus_self n0 no), ?_, upd_same, ?_, hy⟩
      · intro a o n q
        have ne : a ≠ Dl := fun z => by rw [z, hD] at q; cases q
        rw [upd_ne ne]
        exact (kp.trans e36.kp) a o n q
      · rw [hd]
        exact (rl.mono e36.kp.hide).append (.cons rv .nil)
  · have e : i = ds.length := by omega
    subst e
    rw [List.drop_length] at hall
    exact .inl ⟨w.2 rfl, hall Dl acc H' ⟨e2.kp.trans kp, I'.hn.pot⟩ hD0 hDl rl⟩
end
end Pd
namespace Pd
open PySem L2
def runB (n : Nat) (m : Rho → T Out) : List D → T D := fun ds => (m (ds.map Ent.val ++ List.replicate (n - ds.length) Ent.un)).bind fun o => match o with
  | .nx _ => .ret .non
  | .rt d => .ret d
  | .bk _ => .fail
  | .ct _ => .fail
theorem env_start {K : PySem.W.Frag} {P : Program} {w : World} {π : Addr} {N : Addr → Bool} {H : Hp} {vs : List V} {ds : List D} {Nm : List Str} (hn : HN π N H) (r : RvL K P w π (Hide N H) vs ds) :
    EnvOk K P w π N H N H (L2.start Nm vs) (ds.map Ent.val ++ List.replicate (Nm.length - ds.length) Ent.un) := by
  have hl := r.length
  have at' : ∀ (i : Nat) (e : Ent), (ds.map Ent.val ++ List.replicate (Nm.length - ds.length) Ent.un)[i]? = some e → e = .un ∨ ∃ d, ds[i]? = some d ∧ e = .val d := fun i e h => by
    by_cases c : i < ds.length
    · rw [List.getElem?_append_left (by rw [List.length_map]; exact c), List.getElem?_map] at h
      cases q : ds[i]? with
      | none => rw [q] at h; cases h
      | some d => rw [q] at h; cases h; exact .inr ⟨d, rfl, rfl⟩
    · rw [List.getElem?_append_right (by rw [List.length_map]; omega), List.getElem?_replicate] at h
      split at h
      · cases h; exact .inl rfl
      · cases h
  refine ⟨hn, .refl, fun _ h => h, fun _ h => .inl h, ?_, fun i d h => ?_, fun i x h xo => ?_, fun i j e f l h1 h2 o1 o2 => ?_⟩
  · unfold L2.start
    rw [List.length_append, List.length_append, List.length_map, List.length_map, List.length_replicate, List.length_replicate, hl]
  · rcases at' i _ h with e | ⟨d', hd, e⟩
    · cases e
    · cases e
      obtain ⟨v, hv, rv⟩ := r.get hd
      refine ⟨v, ?_, rv⟩
      have c : i < vs.length := (List.getElem?_eq_some_iff.mp hv).1
      unfold L2.start
      rw [List.getElem?_append_left (by rw [List.length_map]; exact c), List.getElem?_map, hv]
      rfl
  · rcases at' i _ h with e | ⟨d', hd, e⟩ <;> (subst e; cases xo)
  · rcases at' i _ h1 with e | ⟨d', hd, e⟩ <;> (subst e; cases o1)
section
variable {P : Program} {w : World} {K : PySem.W.Frag} {mg : Str → Option Value} {base : Heap}
/-- a def of the text, by its body's reading -/
theorem fn_ok {x qual : Str} {st : Stmt} {f : Addr} {fd : FuncData} {Nm ps : List Str} {k n p : Nat} {m : Rho → T Out} {G : List D → T D} (F : Fun K x qual st f fd) (S : FnScope Nm ps (defScope st)) (hn : Nm.length = n) (hp : ps.length = p) (hG : G = runB n m)
    (hb : ∀ (cdv : Value) (A : Around) (outer : List Env) (s : Shared) (H : Hp) (E : XK), Room k (A.deeper (PyProof.Rows.envOfC qual (defScope st) s.heap.objs.size f cdv)) → SndB (cxOf CX0 P w K mg base Nm qual (defScope st) f cdv A outer s H E).nox (defBody st) m) :
    FnOk P w K mg base CX0 (k + 1) f fd ps (spD K P w p G) := by
  subst hn hp hG
  refine F.ok S (fun vs H Q E h => ?_) (fun cdv A outer s H vs Q E hr h => ?_)
  · obtain ⟨π, N, ds, hn, r, hl, _⟩ := h
    exact hl
  · obtain ⟨π, N, ds, hn, r, hl, hall⟩ := h
    refine hb cdv A outer s H E hr (env_start hn r) (T.all_mono (fun o ho => ?_) (T.all_bind.mp hall))
    cases o with
    | nx ρ => exact fun N' H' σ' I => ho .non H' ⟨I.ex, I.hn.pot⟩ .non
    | rt d => exact fun v H' e r => ho v H' e r
    | bk ρ => exact False.elim ho
    | ct ρ => exact False.elim ho
end
section
variable {X : Cx} {a b c e : Expr} {es : List Expr} {m ma mb : Rho → T D} {pos : Pos} {tg it elt : Expr} {ifs : List Expr} {scope : Scope} {own : List (Str × Nat)} {mi : Rho → T (List D)} {g : D → Rho → T Rho} {mt : Rho → T Bool} {me : Rho → T D}
theorem sl_comp (own : List (Str × Nat)) {vs : List Nat} (hv : own.map (·.2) = vs) (hc : X.calm = true) (hN : X.N.Nodup) (ok : BlkOk X.N X.env.scope scope own) (hi : SndI X tg it mi) (hg : ∀ s Hh C cl fp, SndGw (X.blk s Hh scope (compEnvC scope cl C X.env) fp) vs tg g) (ht : ∀ s Hh C cl fp, SndTs (X.blk s Hh scope (compEnvC scope cl C X.env) fp) ifs mt) (he : ∀ s Hh C cl fp, Snd (X.blk s Hh scope (compEnvC scope cl C X.env) fp) elt me)
    (hs : ∀ x, foldedSetIterable it X.env x = pure x := by intro _; rfl) : SndL X (.ListComp elt [⟨tg, it, ifs, 0⟩] scope pos) (lComp vs mi g mt me) := fun {_ _ _ _ _ _ _ _} I h =>
  ⟨_, pe_lc (g := bG X scope tg) (tt := bT X scope ifs) (te := bE X scope elt) hc hN pi_wp ok (fun s H C cl fp => ⟨fun pins s' σ H' v u Q I r h => pg_wp.run pins s' σ H' v u Q I r (h s H C cl fp)⟩) (fun s H C cl fp => ⟨fun pins s' σ H' Q I h => pts_wp.run pins s' σ H' Q I (h s H C cl fp)⟩)
    (fun s H C cl fp => ⟨fun pins s' σ H' Q I h => pe_wp.run pins s' σ H' Q I (h s H C cl fp)⟩) hs, by rw [hv]; exact lc_run hi hg ht he I h⟩
theorem ss_ownLc {i : Nat} {y : Str} {py spos : Pos} (own : List (Str × Nat)) {vs : List Nat} (hv : own.map (·.2) = vs) (hc : X.calm = true) (hN : X.N.Nodup) (ok : BlkOk X.N X.env.scope scope own) (hi : SndI X tg it mi) (hg : ∀ s Hh C cl fp, SndGw (X.blk s Hh scope (compEnvC scope cl C X.env) fp) vs tg g) (ht : ∀ s Hh C cl fp, SndTs (X.blk s Hh scope (compEnvC scope cl C X.env) fp) ifs mt) (he : ∀ s Hh C cl fp, Snd (X.blk s Hh scope (compEnvC scope cl C X.env) fp) elt me)
    (hsw : swapsWith (.ListComp elt [⟨tg, it, ifs, 0⟩] scope pos) (some (.Name y py)) spos.line X.env = pure true) (hy : X.N[i]? = some y := by rfl) (hyl : X.env.scope.names.lookup y = some .local := by rfl) (hs : ∀ x, foldedSetIterable it X.env x = pure x := by intro _; rfl) : SndS X (.Assign [.Name y py] (.ListComp elt [⟨tg, it, ifs, 0⟩] scope pos) spos) (sOwn i (lComp vs mi g mt me)) := fun {π N0 H0 N H σ ρ De} I h =>
  ⟨_, ps_setLc (g := bG X scope tg) (tt := bT X scope ifs) (te := bE X scope elt) hc hN hy hyl hsw pi_wp ok (fun s H C cl fp => ⟨fun pins s' σ H' v u Q I r h => pg_wp.run pins s' σ H' v u Q I r (h s H C cl fp)⟩) (fun s H C cl fp => ⟨fun pins s' σ H' Q I h => pts_wp.run pins s' σ H' Q I (h s H C cl fp)⟩)
    (fun s H C cl fp => ⟨fun pins s' σ H' Q I h => pe_wp.run pins s' σ H' Q I (h s H C cl fp)⟩) hs, by
    rw [hv]
    exact lc_run (Q := fun x H1 => De.nx (σ.set i (some x)) H1) hi hg ht he I (T.all_mono (fun ds hd => by intro l vs H2 e2 hl h2 r; exact hd _ _ _ (I.newAny e2 hl (by rw [h2]; exact fun z => by cases z) (.inl ⟨vs, ds, rfl, h2, r⟩))) (T.all_bind.mp h))⟩
def sPar (i j : Nat) (ma mb : Rho → T D) : Rho → T Out := fun ρ => (ma ρ).bind fun x => (mb ρ).bind fun y => .ret (.nx ((ρ.set i (.val x)).set j (.val y)))
theorem ss_par {i j : Nat} {x y : Str} {px py pt : Pos} {kt k2 pt2} (hc : X.calm = true) (hN : X.N.Nodup) (ha : Snd X a ma) (hb : Snd X b mb) (hij : i ≠ j := by decide) (hi : X.N[i]? = some x := by rfl) (hj : X.N[j]? = some y := by rfl)
    (hx : X.env.scope.names.lookup x = some .local := by rfl) (hy : X.env.scope.names.lookup y = some .local := by rfl)
    (hw : swappedStores [.Tuple [.Name x px, .Name y py] kt pt] (.Tuple [a, b] k2 pt2) X.env = pure (some [x, y]) := by rfl)
    (hs : swapsWithSole [.Tuple [.Name x px, .Name y py] kt pt] (.Tuple [a, b] k2 pt2) pos.line X.env = pure false := by rfl) (he : starEach [a, b] X.env = (false, eval a X.env) :: starEach [b] X.env := by rfl) (he2 : starEach [b] X.env = (false, eval b X.env) :: starEach [] X.env := by rfl) :
    SndS X (.Assign [.Tuple [.Name x px, .Name y py] kt pt] (.Tuple [a, b] k2 pt2) pos) (sPar i j ma mb) := fun {π N0 H0 N H σ ρ De} I h => ⟨_, ps_par hc hN hi hj hij hx hy (pa_cons pe_wp (pa_cons pe_wp pa_nil he2) he) hw hs, by
  refine ha I (T.all_mono (fun d hd => ?_) (T.all_bind.mp h))
  intro v H1 e1 r1
  refine hb (I.ext e1) (T.all_mono (fun d2 hd => ?_) (T.all_bind.mp hd))
  intro u H2 e2 r2
  exact ⟨v, u, rfl, hd _ _ _ ((((I.ext e1).ext e2).set (r1.mono e2.kp.hide)).set r2)⟩⟩
def uNeg : D → T D
  | .int i => .ret (.int (-i))
  | _ => .fail
def eUn (f : D → T D) (ma : Rho → T D) : Rho → T D := fun ρ => (ma ρ).bind f
theorem s_neg (ha : Snd X a ma) : Snd X (.UnaryOp .USub a pos) (eUn uNeg ma) := fun {π N0 H0 N H σ ρ Q} I h => ⟨_, pe_un un_neg pe_wp, ha I (T.all_mono (fun d hd => by
  intro v H2 e2 r
  cases d with
  | int i => cases r; exact ⟨_, rfl, hd _ _ e2 (.int _)⟩
  | _ => exact False.elim hd) (T.all_bind.mp h))⟩
def SndK (X : Cx) (kws : List Keyword) (ms : Rho → T (List D)) : Prop := ∀ ⦃π : Addr⦄ ⦃N0 : Addr → Bool⦄ ⦃H0 : Hp⦄ ⦃N : Addr → Bool⦄ ⦃H : Hp⦄ ⦃σ : L2.St⦄ ⦃ρ : Rho⦄ ⦃Q : List V → Hp → Prop⦄, EnvOk X.K X.prog X.w π N0 H0 N H σ ρ → (ms ρ).all (Ka X π N H Q) → ∃ t, PK X kws t ∧ t σ H Q
theorem sk_nil : SndK X [] aNil := fun {_ _ _ _ _ _ _ _} I h => ⟨_, pk_nil, h _ _ (Ex.refl I.hn.pot) .nil⟩
def wpK (X : Cx) (kws : List Keyword) : TA := fun σ H Q => ∃ t, PK X kws t ∧ t σ H Q
theorem pk_wp {kws : List Keyword} : PK X kws (wpK X kws) := ⟨fun pos pins s σ H Q I ⟨_, h, q⟩ => h.run pos pins s σ H Q I q⟩
theorem sk_cons {kws : List Keyword} {nm : Option Str} {kpos : Pos} {ms : Rho → T (List D)} (ha : Snd X e m) (hr : SndK X kws ms) : SndK X (⟨nm, e, kpos⟩ :: kws) (aCons m ms) := fun {_ _ _ _ _ _ _ _} I h =>
  ⟨_, pk_cons pe_wp pk_wp, by
    refine ha I (T.all_mono (fun dx hx => ?_) (T.all_bind.mp h))
    intro v H1 e1 r1
    refine hr (I.ext e1) (T.all_mono (fun dy hy => ?_) (T.all_bind.mp hx))
    intro vs H2 e2 r2
    exact hy _ _ (e1.trans e2) (.cons (r1.mono e2.kp.hide) r2)⟩
end
end Pd
namespace Pd
open PySem L2
section
variable {X : Cx} {pos : Pos}
theorem s_globI {x : Str} {v : Int} (h : ∃ t, X.mg x = some (.int v t)) (hg : Gl X x := by rfl) (hd : (x == ("__debug__" : Str)) = false := by decide) : Snd X (.Name x pos) (eC (.int v)) := fun {_ _ _ _ _ _ _ _} I q => by
  obtain ⟨t, h⟩ := h
  exact ⟨_, pe_glob hg h (v := .int v) ⟨t, rfl⟩ hd, q _ _ (Ex.refl I.hn.pot) (.int v)⟩
inductive Ty5 where
  | int | bool | str | tuple | list | non | dict
def Ty5.nm : Ty5 → String
  | .int => "int"
  | .bool => "bool"
  | .str => "str"
  | .tuple => "tuple"
  | .list => "list"
  | .non => "NoneType"
  | .dict => "dict"
def Ty5.sub : Ty5 → Ty5 → Bool
  | .int, .int => true
  | .bool, .bool => true
  | .bool, .int => true
  | .str, .str => true
  | .tuple, .tuple => true
  | .list, .list => true
  | .non, .non => true
  | .dict, .dict => true
  | _, _ => false
theorem kitB_sub (a b : Ty5) : kitB a.nm b.nm = some (Ty5.sub a b) := by
  cases a <;> cases b <;> decide +kernel
def tyD : D → Option Ty5
  | .non => some .non
  | .bl _ => some .bool
  | .int _ => some .int
  | .str _ => some .str
  | .tup _ => some .tuple
  | .lst _ => some .list
  | .dic _ => none
  | .pot => none
  | .ins _ _ => none
  | .fn _ => none
  | .rng _ => none
  | .dik _ => some .dict
  | .clo _ _ => none
def isD (k : Ty5) (d : D) : T D := match tyD d with
  | some t => .ret (.bl (Ty5.sub t k))
  | none => .fail
theorem ty_of {K : PySem.W.Frag} {P : Program} {w : World} {π : Addr} {N : Addr → Bool} {H : Hp} {v : V} {d : D} {t : Ty5} (r : Rv K P w π (Hide N H) v d) (h : tyD d = some t) : TyX K H v (.type t.nm) := by
  cases r with
  | non => cases h; exact .base .non
  | bl b => cases h; exact .base (.bl b)
  | int b => cases h; exact .base (.int b)
  | str b => cases h; exact .base (.str b)
  | tup a n r => cases h; exact .base (.tup (hide_some a).2)
  | tupK a r =>
    cases h
    rcases a (fun _ => none) with (z | ⟨o, z⟩) | ⟨o, _, _, z1, z2, _⟩
    · cases z
    · cases z
    · exact .kTuple z1 z2
  | lst a n r => cases h; exact .base (.lst (hide_some a).2)
  | dic a n r => cases h
  | pot => cases h
  | ins _ _ _ _ => cases h
  | fn _ _ => cases h
  | rng _ _ => cases h
  | dik a _ => cases h; exact .fDict (hide_some a).2
  | clo _ _ _ _ _ _ _ => cases h
end
end Pd
namespace Pd
open PySem L2
section
variable {X : Cx} {π : Addr} {N : Addr → Bool} {H : Hp} {pins : List (Addr × Obj)} {σ : L2.St} {s : Shared}
mutual
theorem Rv.nested (I : Inv X pins σ H s) : ∀ {d : D} {v : V} {k : NestedKey} {u : Value}, Rv X.K X.prog X.w π (Hide N H) v d → d.nk = some k → RelV v u → NestedIs s.heap k u
  | _, _, _, _, .non, h, r => by cases h; cases r; exact .none
  | _, _, _, _, .bl b, h, r => by cases h; cases r; exact .bool rfl
  | _, _, _, _, .int i, h, r => by cases h; obtain ⟨t, rfl⟩ := r; exact .int i t
  | _, _, _, _, .str x, h, r => by cases h; obtain ⟨t, rfl⟩ := r; exact .text x t
  | .tup ds, _, k, _, .tup a n q, h, r => by
    unfold D.nk at h
    cases e : D.nks ds with
    | none => rw [e] at h; cases h
    | some ks =>
      rw [e] at h; cases h; cases r
      obtain ⟨its, rv, ⟨o, ho, hc, m, hd⟩, _⟩ := I.tuple (.inl (.inl (hide_some a).2))
      exact .tup ho hc hd (RvL.nested I q e (by simpa using rv))
  | .tup ds, _, k, _, .tupK a q, h, r => by
    unfold D.nk at h
    cases e : D.nks ds with
    | none => rw [e] at h; cases h
    | some ks =>
      rw [e] at h; cases h; cases r
      obtain ⟨its, rv, ⟨o, ho, hc, m, hd⟩, _⟩ := I.tuple (a H)
      exact .tup ho hc hd (RvL.nested I q e (by simpa using rv))
  | .lst _, _, _, _, _, h, _ => by unfold D.nk at h; cases h
  | .dic _, _, _, _, _, h, _ => by unfold D.nk at h; cases h
  | .pot, _, _, _, _, h, _ => by unfold D.nk at h; cases h
  | .ins _ _, _, _, _, _, h, _ => by unfold D.nk at h; cases h
  | .fn _, _, _, _, _, h, _ => by unfold D.nk at h; cases h
  | .rng _, _, _, _, _, h, _ => by unfold D.nk at h; cases h
  | .dik _, _, _, _, _, h, _ => by unfold D.nk at h; cases h
  | .clo _ _, _, _, _, _, h, _ => by unfold D.nk at h; cases h
theorem RvL.nested (I : Inv X pins σ H s) : ∀ {ds : List D} {vs : List V} {ks : List NestedKey} {us : List Value}, RvL X.K X.prog X.w π (Hide N H) vs ds → D.nks ds = some ks → Vals vs us → NestedAll s.heap ks us
  | _, _, _, _, .nil, h, r => by unfold D.nks at h; cases h; cases r; exact .nil
  | d :: ds, _, ks, _, .cons q t, h, r => by
    unfold D.nks at h
    cases e : D.nk d with
    | none => rw [e] at h; cases h
    | some k =>
      rw [e] at h
      cases e2 : D.nks ds with
      | none => rw [e2] at h; cases h
      | some ks' =>
        rw [e2] at h; cases h
        cases r with
        | cons r1 r2 => exact .cons (Rv.nested I q e r1) (RvL.nested I t e2 r2)
end
end
def putX {α : Type} : List (NestedKey × Addr × α) → NestedKey → Addr → α → List (NestedKey × Addr × α)
  | [], k, a, v => [(k, a, v)]
  | x :: r, k, a, v => if x.1 = k then (x.1, x.2.1, v) :: r else x :: putX r k a v
def valX : List (NestedKey × Addr × V) → NestedKey → Option V
  | [], _ => none
  | x :: r, k => if x.1 = k then some x.2.2 else valX r k
def hasK (k : NestedKey) (d : D) : Bool := match d.nk with
  | some k' => NestedKey.beq k' k
  | none => false
def dAt : List (D × D) → NestedKey → Option D
  | [], _ => none
  | x :: r, k => cond (hasK k x.1) (some x.2) (dAt r k)
def dPut : List (D × D) → NestedKey → D → D → List (D × D)
  | [], _, dk, dv => [(dk, dv)]
  | x :: r, k, dk, dv => cond (hasK k x.1) ((x.1, dv) :: r) (x :: dPut r k dk dv)
theorem hasK_eq {k k' : NestedKey} {d : D} (h : d.nk = some k') : hasK k d = decide (k' = k) := by
  unfold hasK
  rw [h, NestedKey.decide_eq]
abbrev PX : List (NestedKey × Addr × V) → List (NestedKey × Addr × Value) → Prop := Paired fun p q => p.1 = q.1 ∧ p.2.1 = q.2.1 ∧ RelV p.2.2 q.2.2
theorem PX.val {k : NestedKey} {xs : List (NestedKey × Addr × V)} {ys : List (NestedKey × Addr × Value)} (r : PX xs ys) : RelO (valX xs k) ((atKey ys k).map (·.2)) := by
  induction r with
  | nil => exact True.intro
  | @cons p q ps qs h t ih =>
    obtain ⟨h1, h2, h3⟩ := h
    by_cases e : p.1 = k
    · have e2 : q.1 = k := by rw [← h1]; exact e
      simp only [valX, atKey, e, e2, if_true, List.find?_cons, decide_true, Option.map_some]
      exact h3
    · have e2 : ¬ q.1 = k := by rw [← h1]; exact e
      have z : atKey (q :: qs) k = atKey qs k := by simp [atKey, e2]
      rw [z]
      simp only [valX, if_neg e]
      exact ih
theorem PX.keys {xs : List (NestedKey × Addr × V)} {ys : List (NestedKey × Addr × Value)} (r : PX xs ys) : xs.map (·.1) = ys.map (·.1) := by
  induction r with
  | nil => rfl
  | cons h t ih => rw [List.map_cons, List.map_cons, h.1, ih]
section
variable {K : PySem.W.Frag} {P : Program} {w : World} {π : Addr} {H : Hp}
theorem RvD.length : ∀ {kvs : List (D × D)} {xs : List (NestedKey × Addr × V)}, RvD K P w π H xs kvs → xs.length = kvs.length
  | _, _, .nil => rfl
  | _, _, .cons _ _ _ _ t => congrArg Nat.succ (RvD.length t)
theorem RvD.val {k : NestedKey} : ∀ {kvs : List (D × D)} {xs : List (NestedKey × Addr × V)}, RvD K P w π H xs kvs → match dAt kvs k with
    | some d => ∃ v, valX xs k = some v ∧ Rv K P w π H v d
    | none => valX xs k = none
  | _, _, .nil => rfl
  | _, _, .cons (k := k') (dk := dk) e dp rk r t => by
    have ih := RvD.val (k := k) t
    unfold dAt valX
    rw [hasK_eq e]
    by_cases q : k' = k
    · simp only [q, decide_true, cond_true, if_true]
      exact ⟨_, rfl, r⟩
    · simp only [q, decide_false, cond_false, if_false]
      exact ih
theorem RvD.get : ∀ {kvs : List (D × D)} {xs : List (NestedKey × Addr × V)} {i : Nat} {p : D × D}, RvD K P w π H xs kvs → kvs[i]? = some p → ∃ k a v, xs[i]? = some (k, a, v) ∧ Rv K P w π H (.ref a) p.1 ∧ Rv K P w π H v p.2
  | _, _, _, _, .nil, e => by simp at e
  | _, _, 0, _, .cons _ _ rk r _, e => by simp at e; subst e; exact ⟨_, _, _, rfl, rk, r⟩
  | _, _, i + 1, _, .cons _ _ _ _ t, e => RvD.get (i := i) t e
end
section
variable {X : Cx} {π : Addr} {N : Addr → Bool} {H : Hp} {pins : List (Addr × Obj)} {σ : L2.St} {s : Shared}
/-- the entries' keys are keys -/
theorem RvD.keys (I : Inv X pins σ H s) : ∀ {kvs : List (D × D)} {xs : List (NestedKey × Addr × V)} {ys : List (NestedKey × Addr × Value)}, RvD X.K X.prog X.w π (Hide N H) xs kvs → PX xs ys → ∀ y ∈ ys, (nestedKind X.prog X.w).is s.heap y.1 y.2.1
  | _, _, _, .nil, .nil => fun _ h => nomatch h
  | _, _, _, .cons e dp rk r t, .cons h p => fun y hy => by
    rcases List.mem_cons.mp hy with z | z
    · subst z
      have h1 : _ = y.1 := h.1
      have h2 : _ = y.2.1 := h.2.1
      rw [← h1, ← h2]
      exact ⟨Rv.nested I rk e rfl, dp⟩
    · exact RvD.keys I t p y z
def KeyAt (X : Cx) (H : Hp) (b : Addr) (k : NestedKey) : Prop := k.depth ≤ 8 ∧ ∃ (π : Addr) (N : Addr → Bool) (d : D), Rv X.K X.prog X.w π (Hide N H) (.ref b) d ∧ d.nk = some k
def EntAt (X : Cx) (H : Hp) (xs : List (NestedKey × Addr × V)) : Prop := ∃ (π : Addr) (N : Addr → Bool) (kvs : List (D × D)), RvD X.K X.prog X.w π (Hide N H) xs kvs
theorem KeyAt.is (I : Inv X pins σ H s) {b : Addr} {k : NestedKey} (h : KeyAt X H b k) : (nestedKind X.prog X.w).is s.heap k b := let ⟨dp, _, _, _, r, e⟩ := h; ⟨Rv.nested I r e rfl, dp⟩
theorem dn_of (I : Inv X pins σ H s) {a : Addr} {xs : List (NestedKey × Addr × V)} (h : Rd H a (DN X.prog X.w a xs)) (en : EntAt X H xs) : (a == sysModules) = false ∧ xs.length ≤ sizeLine ∧ ∃ ys, PX xs ys ∧ s.heap.DictOfH (nestedKind X.prog X.w) a ys := by
  obtain ⟨π, N, kvs, rd⟩ := en
  have ok : ObjOk X.prog X.w H s.heap a (DN X.prog X.w a xs) := rd_of I.hok h
  obtain ⟨⟨h1, h2, h3, ys, pr, o, es, ep, ho, hc, hd, he⟩, _⟩ := ok
  exact ⟨h1, h2, ys, pr, o, es, ep, ho, hc, hd, he, RvD.keys I rd pr, by rw [← PX.keys pr]; exact h3⟩
end
end Pd
namespace Pd
open PySem L2
section
variable {X : Cx} {π : Addr} {N0 N : Addr → Bool} {H0 H : Hp} {pins : List (Addr × Obj)} {σ : L2.St} {ρ : Rho} {s : Shared} {pos : Pos} {a b ke ve e f : Expr} {m mk mv ma mb : Rho → T D}
theorem Rv.dicE {K : PySem.W.Frag} {P : Program} {w : World} {π : Addr} {N : Addr → Bool} {H : Hp} {v : V} {kvs : List (D × D)} (r : Rv K P w π (Hide N H) v (.dic kvs)) : ∃ a od xs, v = .ref a ∧ H a = some (.frz od (DN P w a xs)) ∧ N a = false ∧ a ≠ π ∧ RvD K P w π (Hide N H) xs kvs := by
  cases r with
  | dic h n r => exact ⟨_, _, _, rfl, (hide_some h).2, (hide_some h).1, n, r⟩
end
end Pd
namespace Pd
open PySem L2 PySem.Spec PyProof.Rows
theorem PX.get {xs : List (NestedKey × Addr × V)} {ys : List (NestedKey × Addr × Value)} (r : PX xs ys) : ∀ {i : Nat} {x : NestedKey × Addr × V}, xs[i]? = some x → ∃ y, ys[i]? = some y ∧ x.1 = y.1 ∧ x.2.1 = y.2.1 ∧ RelV x.2.2 y.2.2 := by
  induction r with
  | nil => intro i x e; simp at e
  | @cons p q ps qs h t ih =>
    intro i x e
    cases i with
    | zero => simp at e; subst e; exact ⟨q, rfl, h⟩
    | succ i => exact ih (i := i) (by simpa using e)
end Pd
namespace Pd
open PySem L2 PySem.W PySem.Calls PyProof.Rows PySem.SeqAt
section
variable {M : Model} {A : Around} {E : Value → Shared → Prop} {s : Shared}
theorem firsts_run : ∀ (vs : List Value) (fs : List (Option Value)) {Q : List (Option Value) → Shared → Prop}, EachIs (fun v f => ∃ (a : Addr) (o : Obj) (xs : Array Value) (n : Nat), v = .ref a ∧ s.heap.get? a = some o ∧ o.cls = .type "tuple" ∧ o.data = .seq xs n ∧ f = xs[0]?) vs fs → Q fs s → wpAny M A (vs.mapM firstOfTuple') Q E s
  | _, _, _, .nil, h => by rw [List.mapM_nil]; exact wpAny_pure h
  | v :: vs, f :: fs, Q, .cons ⟨a, o, xs, n, hv, ho, hc, hd, hf⟩ t, h => by
    subst hv hf
    rw [List.mapM_cons]
    refine wpAny_bind ?_
    rw [kas_first_eq]
    refine wpAny_bind (Looks.here (show Looks M s.heap (typeOf (.ref a)) o.cls from (Looks.ld ho).andThen .now) ?_)
    rw [hc, if_neg (by first | decide | simp)]
    refine wpAny_bind (listItems_at ho hd (wpAny_pure ?_))
    exact wpAny_bind (firsts_run vs fs (Q := fun bs s' => wpAny M A (pure (xs[0]? :: bs)) Q E s') t (wpAny_pure h))
end
section
variable {prog : Program} {w : World} {A : Around} {E : Value → Shared → Prop} {s : Shared}
theorem oneLt_tup {xs ys : List PyData} {a b : Value} {as bs : List Addr} {Q : Bool → Shared → Prop} (ra : Reads s.heap a (.tuple xs) as) (rb : Reads s.heap b (.tuple ys) bs) (h : alike (.tuple xs) (.tuple ys) = true)
    (hu : A.units + min (PyData.depth (.tuple xs)) (PyData.depth (.tuple ys)) < cLine) (hq : Q (dataLt (.tuple xs) (.tuple ys)) s) : wpAny (model prog w) A (oneLt' true a b) Q E s := by
  have hal : alikeAll xs ys = true := by simpa [alike] using h
  cases ra with
  | @tuple l o vs n _ as₁ h1 h2 h3 h4 =>
    cases rb with
    | @tuple l' o' vs' n' _ bs₁ k1 k2 k3 k4 =>
      have n1 : vs.size = xs.length := by simpa using ReadsAll.length _ _ _ h4
      have n2 : vs'.size = ys.length := by simpa using ReadsAll.length _ _ _ k4
      rw [dataLt_tuple, ← firstLt_toks xs ys hal, ← n1, ← n2] at hq
      rw [oneLt'_eq]
      simp only [if_true]
      refine wpAny_bind (wpAny_cRoomFor (room_here hu) ?_)
      have hl : s.heap.IsTuple l vs := ⟨_, h1, h2, _, h3⟩
      have hb : s.heap.IsTuple l' vs' := ⟨_, k1, k2, _, k3⟩
      obtain ⟨⟨cls, dd, data, sl⟩, ho, hc, n, hd⟩ := id hl
      obtain ⟨⟨cls2, dd2, data2, sl2⟩, ho2, hc2, n2', hd2⟩ := id hb
      simp only at hc hd hc2 hd2
      subst hc hd hc2 hd2
      refine wpAny_bind (wpAny_callSpecialIfBound?_slot (T := "tuple") ⟨_, h1, h2⟩ F.slot_tuple_lt (call_meets F.slot_tuple_lt ⟨_, ho, rfl⟩ F.entry_tuple_lt (F.args_tuple_lt_2 _ _) (tuple_ltAt l l' vs vs' n n2' dd dd2 sl sl2 (pairEq xs ys) (fun j => dataLt (xs.getD j .none) (ys.getD j .none))) ⟨ho, ho2, (fun j j1 j2 => ?_), (fun j j1 j2 hj => ?_), ?_⟩))
      · have := eqAt_alikeAll xs ys A.in1 s vs.toList vs'.toList _ _ h4 k4 hal (room_in hu) j (by simpa using j1) (by simpa using j2)
        simpa using this
      · have := rcLt_alikeAll xs ys A.in1 s vs.toList vs'.toList _ _ h4 k4 hal (room_in hu) j (by simpa using j1) (by simpa using j2) hj
        simpa using this
      · exact wpAny_truthy_bool hq
theorem firsts_of {h : Heap} : ∀ {vs : List Value} {ds : List PyData}, EachIs (fun v d => ∃ as, Reads h v d as) vs ds → (∀ d ∈ ds, ∃ xs, d = .tuple xs) → ∃ fs : List (Option Value), EachIs (fun v f => ∃ (a : Addr) (o : Obj) (xs : Array Value) (n : Nat), v = .ref a ∧ h.get? a = some o ∧ o.cls = .type "tuple" ∧ o.data = .seq xs n ∧ f = xs[0]?) vs fs ∧ EachIs (fun (f : Option Value) d => f.isSome = true ↔ d ≠ .tuple []) fs ds
  | _, _, .nil, _ => ⟨[], .nil, .nil⟩
  | v :: vs, d :: ds, .cons ⟨as, r⟩ t, ht => by
    obtain ⟨fs, e1, e2⟩ := firsts_of t fun d hd => ht d (List.mem_cons_of_mem _ hd)
    obtain ⟨xs, rfl⟩ := ht d (List.mem_cons_self ..)
    cases r with
    | @tuple a o us n _ _ ho hc hd hr =>
      have n1 : us.size = xs.length := by simpa using ReadsAll.length _ _ _ hr
      refine ⟨us[0]? :: fs, .cons ⟨a, o, us, n, rfl, ho, hc, hd, rfl⟩ e1, .cons ?_ e2⟩
      cases xs with
      | nil =>
        have : us[0]? = none := by simp at n1; simp [n1]
        simp [this]
      | cons x xs =>
        have : us[0]?.isSome = true := by simp at n1 ⊢; omega
        simp [this]
theorem SortsAt.tups {vs : List Value} {ds : List PyData} (e : EachIs (fun v d => ∃ as, Reads s.heap v d as) vs ds) (hal : AllAlike ds) (ht : ∀ d ∈ ds, ∃ xs, d = .tuple xs) (he : PyData.tuple [] ∈ ds) (hu : ∀ d, d ∈ ds → A.units + d.depth < cLine) : SortsAt prog w A s (dataKind s.heap ds) vs := by
  have room : ∀ {d d' : PyData}, d ∈ ds → A.units + min d.depth d'.depth < cLine := fun {d d'} hd => Nat.lt_of_le_of_lt (Nat.add_le_add_left (Nat.min_le_left _ _) _) (hu d hd)
  refine ⟨fun v hv => ?_, ?_⟩
  · obtain ⟨d, hd, as, r⟩ := e.left v hv
    exact ⟨_, dataKind_some hal hd r⟩
  · obtain ⟨fs, f1, f2⟩ := firsts_of e ht
    have none_in : ∃ f ∈ fs, f = none := by
      have : ∀ {fs : List (Option Value)} {ds : List PyData}, EachIs (fun (f : Option Value) d => f.isSome = true ↔ d ≠ .tuple []) fs ds → PyData.tuple [] ∈ ds → ∃ f ∈ fs, f = none := by
        intro fs ds h
        induction h with
        | nil => intro z; cases z
        | @cons f d fs ds h t ih =>
          intro z
          rcases List.mem_cons.mp z with z | z
          · refine ⟨f, List.mem_cons_self, ?_⟩
            cases f with
            | none => rfl
            | some x => exact absurd z.symm (h.mp rfl)
          · obtain ⟨g, hg, e⟩ := ih z
            exact ⟨g, List.mem_cons_of_mem _ hg, e⟩
      exact this f2 he
    have notall : (fs.toArray.all fun x => x.isSome) = false := by
      obtain ⟨f, hf, e⟩ := none_in
      subst e
      rw [List.all_toArray]
      cases c : fs.all fun x => x.isSome with
      | false => rfl
      | true =>
        have := List.all_eq_true.mp c none hf
        cases this
    have ask : ∀ (E : Value → Shared → Prop) {Q : SortKind → Shared → Prop}, 2 ≤ vs.length → Q (if (fs[0]?.bind id).isSome = true then general' else oneType') s → wpAny (model prog w) A (keyKind' vs.toArray) Q E s := by
      intro E Q h2 hq
      rw [keyKind'_eq, List.mapM_toArray, map_eq_pure_bind]
      refine wpAny_bind (wpAny_bind (firsts_run vs fs f1 (wpAny_pure ?_)))
      rw [if_neg (by rw [notall]; exact Bool.false_ne_true)]
      rw [List.getElem?_toArray]
      by_cases c : (fs[0]?.bind id).isSome = true
      · rw [if_pos c]
        rw [if_pos c] at hq
        exact wpAny_pure hq
      · rw [if_neg c]
        rw [if_neg c] at hq
        rw [oneTypeOnly'_eq, List.mapM_toArray, map_eq_pure_bind]
        refine wpAny_bind (wpAny_bind (wpAny_bind (kas_mapM (r := Value.type "tuple") _ (fun v hv Q' hq => ?_) (wpAny_pure ?_))))
        · obtain ⟨d, hd, as, r⟩ := e.left v hv
          obtain ⟨xs, rfl⟩ := ht d hd
          exact (looks_reads r).here hq
        · have hall : ((List.map (fun _ => Value.type "tuple") vs).toArray.all fun x => x == Value.type "tuple") = true := by
            simp only [List.all_toArray, List.all_map, List.all_eq_true]
            intro _ _
            exact beq_self_eq_true _
          have h0 : (List.map (fun _ => Value.type "tuple") vs).toArray[0]? = some (Value.type "tuple") := by
            cases vs with
            | nil => simp at h2
            | cons v vs => simp
          rw [h0]
          simp only [hall, if_true]
          exact wpAny_pure (wpAny_pure hq)
    refine ⟨if (fs[0]?.bind id).isSome = true then general' else oneType', ?_, fun h2 E Q hq => ask E h2 hq⟩
    intro E x y a b Q ha hb hq
    obtain ⟨d, as, hd, ra, rfl⟩ := dataKind_inv ha
    obtain ⟨d', as', hd', rb, rfl⟩ := dataKind_inv hb
    obtain ⟨xs, rfl⟩ := ht d hd
    obtain ⟨ys, rfl⟩ := ht d' hd'
    by_cases c : (fs[0]?.bind id).isSome = true
    · rw [if_pos c]
      show wpAny _ _ (oneLt' false x y) _ _ _
      exact oneLt_alike (f := false) (fun z => by cases z) ra rb (hal _ hd _ hd') (fun z => by cases z) (room hd) hq
    · rw [if_neg c]
      rw [keyLt'_oneType]
      exact oneLt_tup ra rb (hal _ hd _ hd') (room hd) hq
end
end Pd
namespace Pd
open PySem L2 PySem.W PySem.Calls PyProof.Rows
def ins {α : Type} (le : α → α → Bool) (a : α) : List α → List α
  | [] => [a]
  | b :: bs => cond (le a b) (a :: b :: bs) (b :: ins le a bs)
end Pd
namespace Pd
open PySem L2 PySem.Spec PyProof.Rows
theorem mul_same (l : Addr) (items : Array Value) (n : Nat) (dd : Option Addr) (sl : Array (Option Value)) (x : Int) (u : Tok) (c0 : (decide (x < -(2 ^ 63)) || decide (x ≥ 2 ^ 63)) = false) (c1 : (items.isEmpty || x == 1) = true) :
    Meets (Builtin.«tuple.__mul__» ⟨[.ref l, .int x u], []⟩) (fun _ R s => s.heap.get? l = some { cls := .type "tuple", dict := dd, data := .seq items n, slots := sl } ∧ R (.ok (.ret (.ref l))) s) :=
  .of_wp fun prog w A R s h => by
    obtain ⟨hp, g, d, tk, os⟩ := s
    obtain ⟨hl, h⟩ := h
    have f1 := AutoSeq1.idx_int
    wp_walk using wpAny_loadPart' hl
    repeat (first
      | (refine wpAny_ite_false (decide_eq_false (by rw [c0]; exact Bool.false_ne_true)) ?_; wp_walk using wpAny_loadPart' hl)
      | (refine wpAny_ite_true (decide_eq_true c1) ?_; wp_walk using wpAny_loadPart' hl))
    exact ⟨_, rfl, h⟩
theorem mul_zero (l : Addr) (items : Array Value) (n : Nat) (dd : Option Addr) (sl : Array (Option Value)) (x : Int) (u : Tok) (c0 : (decide (x < -(2 ^ 63)) || decide (x ≥ 2 ^ 63)) = false) (c1 : (items.isEmpty || x == 1) = false) (c2 : (decide (x ≤ 0) || items.isEmpty) = true) :
    Meets (Builtin.«tuple.__mul__» ⟨[.ref l, .int x u], []⟩) (fun _ R s => s.heap.get? l = some { cls := .type "tuple", dict := dd, data := .seq items n, slots := sl } ∧
      R (.ok (.ret (.ref s.heap.objs.size))) { s with heap := s.heap.push { cls := .type "tuple", data := .seq #[] }, toks := s.toks }) :=
  .of_wp fun prog w A R s h => by
    obtain ⟨hp, g, d, tk, os⟩ := s
    obtain ⟨hl, h⟩ := h
    have f1 := AutoSeq1.idx_int
    wp_walk using wpAny_loadPart' hl
    repeat (first
      | (refine wpAny_ite_false (decide_eq_false (by rw [c0]; exact Bool.false_ne_true)) ?_; wp_walk using wpAny_loadPart' hl)
      | (refine wpAny_ite_false (decide_eq_false (by rw [c1]; exact Bool.false_ne_true)) ?_; wp_walk using wpAny_loadPart' hl)
      | (refine wpAny_ite_true (decide_eq_true c2) ?_; wp_walk using wpAny_loadPart' hl))
    exact ⟨_, rfl, h⟩
section
variable {X : Cx}
theorem op_repS : OpR X (binaryOp .Mult) (fun x y H Q => ∃ l k xs, x = .ref l ∧ y = .int k ∧ SqT X.K H l xs ∧ -1000 ≤ k ∧ k ≤ 1000 ∧ (((xs = [] ∨ k = 1) ∧ Q (.ref l) H) ∨ (xs ≠ [] ∧ k ≤ 0 ∧ ∀ p, H p = none → Q (.ref p) (upd H p (.tup []))))) := by
  intro pins s σ H x y v u Q I rx ry h
  obtain ⟨l, k, xs, rfl, rfl, hT, h1, h2, hq⟩ := h
  cases rx
  obtain ⟨t, rfl⟩ := ry
  obtain ⟨its, r, ⟨⟨cls, dd, data, sl⟩, ho, hc, n, hd⟩, hs⟩ := I.tuple hT
  simp only at hc hd
  subst hc hd
  have hle : its.length = xs.length := r.length.symm
  have c0 : (decide (k < -(2 ^ 63)) || decide (k ≥ 2 ^ 63)) = false := by
    rw [decide_eq_false (by omega), decide_eq_false (by omega)] <;> rfl
  have nilI : xs = [] → its = [] := fun e => List.eq_nil_of_length_eq_zero (by rw [hle, e]; rfl)
  rcases hq with ⟨e, q⟩ | ⟨e, k0, q⟩
  · have c1 : (its.toArray.isEmpty || k == 1) = true := by
      rcases e with e | e
      · rw [nilI e]; rfl
      · rw [e, beq_self_eq_true, Bool.or_true]
    exact wpAny_binaryOp_repeat_ref (T := "tuple") (U := "int") (by decide) ⟨_, ho, rfl⟩ (fun s' => typeIs_int s' k t) noFill_tuple_mul F.fills_int_mul F.slot_int_rmul repeat_tuple F.slot_int_index.lookup
      (call_meets F.slot_int_rmul (typeIs_int s k t) F.entry_int_rmul (F.args_int_rmul_2 _ _) (int_rmul_tuple k t l its.toArray n dd sl)
        ⟨ho, rfl, ⟨_, ho, rfl⟩, call_meets F.slot_tuple_mul ⟨_, ho, rfl⟩ F.entry_tuple_mul (F.args_tuple_mul_2 _ _) (mul_same l its.toArray n dd sl k t c0 c1) ⟨ho, .ref l, H, I, rfl, q⟩⟩)
  · have hn : its ≠ [] := fun z => e (List.eq_nil_of_length_eq_zero (by rw [← hle, z]; rfl))
    have hi : its.toArray.isEmpty = false := by
      cases its with
      | nil => exact absurd rfl hn
      | cons a b => rfl
    have c1 : (its.toArray.isEmpty || k == 1) = false := by
      rw [hi, Bool.false_or]
      exact beq_eq_false_iff_ne.mpr (by omega)
    have c2 : (decide (k ≤ 0) || its.toArray.isEmpty) = true := by
      rw [decide_eq_true k0, Bool.true_or]
    exact wpAny_binaryOp_repeat_ref (T := "tuple") (U := "int") (by decide) ⟨_, ho, rfl⟩ (fun s' => typeIs_int s' k t) noFill_tuple_mul F.fills_int_mul F.slot_int_rmul repeat_tuple F.slot_int_index.lookup
      (call_meets F.slot_int_rmul (typeIs_int s k t) F.entry_int_rmul (F.args_int_rmul_2 _ _) (int_rmul_tuple k t l its.toArray n dd sl)
        ⟨ho, rfl, ⟨_, ho, rfl⟩, call_meets F.slot_tuple_mul ⟨_, ho, rfl⟩ F.entry_tuple_mul (F.args_tuple_mul_2 _ _) (mul_zero l its.toArray n dd sl k t c0 c1 c2)
          ⟨ho, .ref s.heap.objs.size, _, I.laid (t' := s.toks) (o := .tup []) (fun b ob q => Heap.get?_push_of_some _ q) (Nat.le_refl _) ⟨Nat.zero_le _, [], .nil, IsTup.new _ _⟩, rfl, q _ (I.hok.fresh (Nat.le_refl _))⟩⟩)
/-- tuple * int, any -/
def opMulT : D → D → T D
  | .tup a, .int k => cond (a.isEmpty || decide (k = 1)) (cond (decide (-1000 ≤ k) && decide (k ≤ 1000)) (.ret (.tup a)) .fail) (cond (decide (k ≤ 0)) (cond (decide (-1000 ≤ k)) (.ret (.tup [])) .fail) (opMul (.tup a) (.int k)))
  | x, y => opMul x y
theorem os_mulT : OpSnd X (binaryOp .Mult) opMulT := fun {π N H x y dx dy Q} hn rx ry h => by
  unfold opMulT at h
  split at h
  · rename_i ds k
    cases c : (ds.isEmpty || decide (k = 1)) with
    | true =>
      rw [c] at h
      obtain ⟨hb, h⟩ := cond_all (show (cond (decide (-1000 ≤ k) && decide (k ≤ 1000)) (T.ret (D.tup ds)) .fail).all _ from h)
      simp only [Bool.and_eq_true, decide_eq_true_eq] at hb
      obtain ⟨a, vs, rfl, ha, ra⟩ := id rx.tupE
      cases ry
      refine ⟨_, op_repS, a, k, vs, rfl, rfl, ha, hb.1, hb.2, .inl ⟨?_, h _ _ (Ex.refl hn.pot) rx⟩⟩
      rcases Bool.or_eq_true_iff.mp c with z | z
      · exact .inl (ra.nil_of.mpr (by simpa using z))
      · exact .inr (of_decide_eq_true z)
    | false =>
      rw [c] at h
      cases c2 : decide (k ≤ 0) with
      | true =>
        rw [c2] at h
        obtain ⟨hb, h⟩ := cond_all (show (cond (decide (-1000 ≤ k)) (T.ret (D.tup [])) .fail).all _ from h)
        have k0 := of_decide_eq_true c2
        obtain ⟨a, vs, rfl, ha, ra⟩ := id rx.tupE
        cases ry
        refine ⟨_, op_repS, a, k, vs, rfl, rfl, ha, of_decide_eq_true hb, by omega, .inr ⟨fun e => ?_, k0, fun p hp => Kd.new h hn .nil hp⟩⟩
        rw [ra.nil_of.mp e] at c
        cases c
      | false =>
        rw [c2] at h
        exact os_mul hn rx ry h
  · exact os_mul hn rx ry h
end
def pickD (perm : List Nat) (ds : List D) : List D := perm.map fun i => ds.getD i .non
def KBind (K : PySem.W.Frag) (fd : FuncData) (ps ks : List Str) (perm : List Nat) : Prop := ∀ (s : Shared) (us : List Value), K.In s.heap → us.length = ks.length → BindsTo s fd ⟨[], ks.zip us⟩ (ps.zip (perm.map fun i => us.getD i .none))
def eCallK (n : Nat) (perm : List Nat) (F : List D → T D) (ms : Rho → T (List D)) : Rho → T D := fun ρ => (ms ρ).bind fun ds => cond (ds.length == n) (F (pickD perm ds)) .fail
theorem vals_pick {vs : List V} {us : List Value} (r : Vals vs us) : ∀ perm : List Nat, Vals (perm.map fun i => vs.getD i .non) (perm.map fun i => us.getD i .none)
  | [] => .nil
  | i :: perm => by
    refine .cons ?_ (vals_pick r perm)
    show RelV (vs.getD i .non) (us.getD i .none)
    rw [List.getD_eq_getElem?_getD, List.getD_eq_getElem?_getD]
    cases q : vs[i]? with
    | none =>
      have : us[i]? = none := List.getElem?_eq_none (by have := List.getElem?_eq_none_iff.mp q; rw [← r.length]; exact this)
      rw [this]
      rfl
    | some v =>
      obtain ⟨u, hu, ru⟩ := r.get q
      rw [hu]
      exact ru
theorem rvl_pick {K : PySem.W.Frag} {P : Program} {w : World} {π : Addr} {H : Hp} {vs : List V} {ds : List D} (r : RvL K P w π H vs ds) : ∀ perm : List Nat, RvL K P w π H (perm.map fun i => vs.getD i .non) (pickD perm ds)
  | [] => .nil
  | i :: perm => by
    refine .cons ?_ (rvl_pick r perm)
    show Rv K P w π H (vs.getD i .non) (ds.getD i .non)
    rw [List.getD_eq_getElem?_getD, List.getD_eq_getElem?_getD]
    cases q : ds[i]? with
    | none =>
      have : vs[i]? = none := List.getElem?_eq_none (by have := List.getElem?_eq_none_iff.mp q; rw [r.length]; exact this)
      rw [this]
      exact .non
    | some d =>
      obtain ⟨v, hv, rv⟩ := r.get q
      rw [hv]
      exact rv
section
variable {X : Cx} {pos : Pos}
theorem s_callK {k n : Nat} {f : Addr} {fd : FuncData} {ps ks : List Str} {perm : List Nat} {F : List D → T D} {x : Str} {p : Pos} {kws : List Keyword} {ms : Rho → T (List D)} (G : FnOk X.prog X.w X.K X.mg X.base CX0 k f fd ps (spD X.K X.prog X.w n F)) (hr : Room k X.A) (hm : X.mg x = some (.ref f)) (hk : PySem.W.keepIn X.K (.ref f) = true)
    (hb : KBind X.K fd ps ks perm) (hp : perm.length = n) (hkn : ks.length = n) (ha : SndK X kws ms) (hg : Gl X x := by rfl) (hall : (backToKw pos (keywordEach kws X.env)).all (·.1.isSome) = true := by rfl) (hks : (backToKw pos (keywordEach kws X.env)).filterMap (·.1) = ks := by rfl)
    (hdb : (x == ("__debug__" : Str)) = false := by decide) (hpl : ((backTo pos (starEach [] X.env)).any (·.1) || (backToKw pos (keywordEach kws X.env)).any (·.1.isNone)) = false := by rfl) : Snd X (.Call (.Name x p) [] kws pos) (eCallK n perm F ms) := fun {π N0 H0 N H σ ρ Q} I h => by
  refine ⟨fun σ H Q => wpK X kws σ H fun zs H2 => zs.length = n ∧ spD X.K X.prog X.w n F (perm.map fun i => zs.getD i .non) H2 Q E0, ⟨fun pins s σ H Q J q => ?_⟩, ?_⟩
  · refine wpAny_Call_Name_kw (ld_glob J hg hm ?_ hdb)
    refine PySem.W.callWith_KW0 (h₀ := X.base) J.ok.mod.kin hk hall (thn (pk_wp.run pos pins s σ H _ J q) fun ws s2 ⟨zs, H2, I2, rz, hz, q2⟩ => ⟨I2.kIn, ?_⟩) hpl
    rw [hks]
    show wpAny _ _ (call (.ref f) [] (ks.zip ws)) _ _ _
    have r2 := vals_pick rz perm
    refine wpAny_call (codeAny_mono (G.run X.A X.stack s2 H2 ⟨[], ks.zip ws⟩ _ _ Q E0 hr I2.env0 (hb s2 ws I2.kIn (by rw [← rz.length, hz, hkn])) r2 q2) fun r s' hq => ?_)
    cases r with
    | error e => exact pass0 pins σ H2 s2 e s' I2 hq
    | ok fl =>
      cases fl with
      | ret u => exact I2.after hq
      | next => exact False.elim hq
      | brk => exact False.elim hq
      | cont => exact False.elim hq
  · refine ha I (T.all_mono (fun ds hd => ?_) (T.all_bind.mp h))
    intro vs H2 e1 r
    obtain ⟨hn, hd⟩ := cond_all hd
    have hn : ds.length = n := by simpa using hn
    exact ⟨by rw [r.length]; exact hn, π, N, pickD perm ds, I.hn.ext e1, rvl_pick r perm, by rw [List.length_map]; exact hp, T.all_mono (fun d q v H3 e3 r3 => q v H3 (e1.trans e3) r3) hd⟩
end
end Pd
namespace Pd
open PySem L2 PySem.Spec PyProof.Rows
structure FnG (P : Program) (w : World) (K : PySem.W.Frag) (mg : Str → Option Value) (base : Heap) (CX : CXT) (k : Nat) (f : Addr) (fd : FuncData) (ps : List Str) (sp : Sp) : Prop where
  len : ∀ zs Hx Qx Ex, sp zs Hx Qx Ex → zs.length = ps.length
  run : ∀ (A : Around) (out : List Env) (s : Shared) (H : Hp) (as : Args) (us : List Value) (vs : List V) (Q : VK) (E : XK), Room k A → A.guards = some [] → Env0 P w K mg base A out s H → BindsTo s fd as (ps.zip us) → Vals vs us → sp vs H Q E →
    codeAny (model P w) A (.call (.ref f) as) (CR CX out P w H s Q E) s
theorem fnG_of {CX : CXT} {P : Program} {w : World} {K : PySem.W.Frag} {mg : Str → Option Value} {base : Heap} {k : Nat} {f : Addr} {name qual : Str} {params : Arguments} {body : List Stmt} {scope : Scope} {dV kV doc pm cdv ct oc : Value} {an od : Option Addr}
    {osl : Array (Option Value)} {Nm ps : List Str} {sp : Sp} (lk : K.lookup f = some ⟨oc, od, .func (PySem.W.fnOf name qual params body scope dV kV doc pm an cdv ct), osl⟩) (hcd : PySem.W.codeIn K cdv qual = true) (S : FnScope Nm ps scope)
    (len : ∀ zs Hx Qx Ex, sp zs Hx Qx Ex → zs.length = ps.length)
    (hb : ∀ (A : Around) (out : List Env) (s : Shared) (H : Hp) (vs : List V) (Q : VK) (E : XK), Room k (A.deeper (envOfC qual scope s.heap.objs.size f cdv)) → A.guards = some [] → sp vs H Q E →
      ∃ t, PSs (cxOf CX P w K mg base Nm qual scope f cdv A out s H E) body t ∧ t { nx := fun _ H1 => Q .non H1, rt := Q } (start Nm vs) H) :
    FnG P w K mg base CX (k + 1) f (PySem.W.fnOf name qual params body scope dV kV doc pm an cdv ct) ps sp := by
  refine ⟨len, fun A out s H as us vs Q E hr hgd e0 hbd r hsp => ?_⟩
  have hl := len _ _ _ _ hsp
  have hK : K.In s.heap := e0.mod.kin.keeps fun b o e => (e0.bs b o e).1
  have hnl : s.heap.NoLimit := e0.mod.nolimit.keeps fun b o e => (e0.bs b o e).1
  have hkd : ∀ y ∈ ps.zip us, scope.names.lookup y.1 = some .local ∨ (scope.names.lookup y.1 = some .cell ∧ ((cellsFrom (s.heap.objs.size + 1) scope.names []).lookup y.1).isSome = true) := by
    intro ⟨n, v⟩ hy
    rcases S.par n (List.of_mem_zip hy).1 with q | q
    · exact Or.inl q
    · exact Or.inr ⟨q, PySem.W.cellsFrom_some _ _ _ (.inl q)⟩
  refine codeAny_call_function hr.depth (hK _ _ lk) rfl S.co S.gen rfl (PySem.W.codeRec_of hK hcd) (hbd _ _ _ _ (wpAny_newFunctionEnv_cells S.kind hkd fun env he s1 x => ?_))
  subst he
  refine ⟨hnl.keeps x.toInCall.keep, codeAny_func ?_⟩
  obtain ⟨t, ht, hq⟩ := hb A out s H vs Q E (hr.deeper _) hgd hsp
  have J0 := inv_start (E := E) (CX := CX) S hr.hd e0 hl r x
  refine wpAny_mono (ht.run [] s1 (start Nm vs) H _ J0 hq) (fun fl s2 hs => ?_) fun _ _ z => z
  cases fl with
  | ret u =>
    obtain ⟨v, σ2, H2, J, rv, q⟩ := hs
    exact ⟨v, H2, J.os, J.bare, J.base, J.hok, rv, q⟩
  | next =>
    obtain ⟨σ2, H2, J, q⟩ := hs
    exact ⟨V.non, H2, J.os, J.bare, J.base, J.hok, rfl, q⟩
  | brk =>
    obtain ⟨_, _, _, q⟩ := hs
    exact q.elim
  | cont =>
    obtain ⟨_, _, _, q⟩ := hs
    exact q.elim
section
variable {P : Program} {w : World} {K : PySem.W.Frag} {mg : Str → Option Value} {base : Heap}
theorem okG {x qual : Str} {st : Stmt} {f : Addr} {fd : FuncData} {Nm ps : List Str} {k : Nat} {sp : Sp} (F : Fun K x qual st f fd) (S : FnScope Nm ps (defScope st)) (len : ∀ zs Hx Qx Ex, sp zs Hx Qx Ex → zs.length = ps.length)
    (hb : ∀ (cdv : Value) (A : Around) (outer : List Env) (s : Shared) (H : Hp) (vs : List V) (Q : VK) (E : XK), Room k (A.deeper (PyProof.Rows.envOfC qual (defScope st) s.heap.objs.size f cdv)) → A.guards = some [] → sp vs H Q E →
      ∃ t, PSs (cxOf CX0 P w K mg base Nm qual (defScope st) f cdv A outer s H E).nox (defBody st) t ∧ t { nx := fun _ H1 => Q .non H1, rt := Q } (start Nm vs) H) : FnG P w K mg base CX0 (k + 1) f fd ps sp := by
  obtain ⟨oc, od, kV, doc, pm, an, cdv, ct, osl, rfl, lk, hcd⟩ := F.ex
  refine fnG_of lk hcd S len fun A outer s H vs Q E hr hgd h => ?_
  obtain ⟨t, ht, hq⟩ := hb cdv A outer s H vs Q E hr hgd h
  exact ⟨t, ht.nox, hq⟩
theorem fnG_ok {x qual : Str} {st : Stmt} {f : Addr} {fd : FuncData} {Nm ps : List Str} {k n p : Nat} {m : Rho → T Out} {G : List D → T D} (F : Fun K x qual st f fd) (S : FnScope Nm ps (defScope st)) (hn : Nm.length = n) (hp : ps.length = p) (hG : G = runB n m)
    (hb : ∀ (cdv : Value) (A : Around) (outer : List Env) (s : Shared) (H : Hp) (E : XK), Room k (A.deeper (PyProof.Rows.envOfC qual (defScope st) s.heap.objs.size f cdv)) → A.guards = some [] → SndB (cxOf CX0 P w K mg base Nm qual (defScope st) f cdv A outer s H E).nox (defBody st) m) :
    FnG P w K mg base CX0 (k + 1) f fd ps (spD K P w p G) := by
  subst hn hp hG
  obtain ⟨oc, od, kV, doc, pm, an, cdv, ct, osl, rfl, lk, hcd⟩ := F.ex
  refine fnG_of lk hcd S (fun vs H Q E h => ?_) (fun A outer s H vs Q E hr hgd h => ?_)
  · obtain ⟨π, N, ds, hn, r, hl, _⟩ := h
    exact hl
  · obtain ⟨π, N, ds, hn, r, hl, hall⟩ := h
    have z := hb cdv A outer s H E hr hgd (De := { nx := fun _ H' => Q .non H', rt := Q }) (env_start hn r) (T.all_mono (fun o ho => by
      cases o with
      | nx ρ => exact fun N' H' σ' I => ho .non H' ⟨I.ex, I.hn.pot⟩ .non
      | rt d => exact fun v H' e r => ho v H' e r
      | bk ρ => exact False.elim ho
      | ct ρ => exact False.elim ho) (T.all_bind.mp hall))
    obtain ⟨t, ht, hq⟩ := z
    exact ⟨t, ht.nox, hq⟩
end
section
variable {X : Cx} {e : Expr} {es : List Expr} {pos : Pos}
theorem pe_callG {k : Nat} {f : Addr} {fd : FuncData} {ps : List Str} {sp : Sp} {x : Str} {p : Pos} {t : TA} (G : FnG X.prog X.w X.K X.mg X.base CX0 k f fd ps sp) (hr : Room k X.A) (hgd : X.A.guards = some []) (hm : X.mg x = some (.ref f)) (hk : PySem.W.keepIn X.K (.ref f) = true) (hb : Binds X.K fd ps [])
    (ha : PA X (e :: es) t) (hg : Gl X x := by rfl) (hdb : (x == ("__debug__" : Str)) = false := by decide) (he : starEach (e :: es) X.env = (false, eval e X.env) :: starEach es X.env := by rfl) (hpl : (backTo pos (starEach es X.env)).any (·.1) = false := by rfl) :
    PE X (.Call (.Name x p) (e :: es) [] pos) (fun σ H Q => t σ H fun zs H2 => sp zs H2 Q E0) := by
  refine ⟨fun pins s σ H Q J q => ?_⟩
  refine wpAny_Call_Name_kw (ld_glob J hg hm ?_ hdb)
  refine PySem.W.callWith_K (h₀ := X.base) J.ok.mod.kin hk (thn (ha.run pos pins s σ H _ J q) fun us s1 ⟨vs, H1, I1, r, q⟩ => ⟨I1.kIn, ?_⟩) he hpl
  have hl : us.length = ps.length := by rw [← r.length]; exact G.len _ _ _ _ q
  have b0 := hb s1 us I1.kIn (by rw [List.append_nil]; exact hl)
  rw [List.append_nil] at b0
  show wpAny _ _ (call (.ref f) us) _ _ _
  refine wpAny_call (codeAny_mono (G.run X.A X.stack s1 H1 ⟨us, []⟩ us vs Q E0 hr hgd I1.env0 b0 r q) fun r s' hq => ?_)
  cases r with
  | error e => exact pass0 pins σ H1 s1 e s' I1 hq
  | ok fl =>
    cases fl with
    | ret u => exact I1.after hq
    | next => exact False.elim hq
    | brk => exact False.elim hq
    | cont => exact False.elim hq
theorem s_callG {k n : Nat} {f : Addr} {fd : FuncData} {ps : List Str} {F : List D → T D} {x : Str} {p : Pos} {ms : Rho → T (List D)} (G : FnG X.prog X.w X.K X.mg X.base CX0 k f fd ps (spD X.K X.prog X.w n F)) (hr : Room k X.A) (hgd : X.A.guards = some []) (hm : X.mg x = some (.ref f)) (hk : PySem.W.keepIn X.K (.ref f) = true) (hb : Binds X.K fd ps [])
    (ha : SndA X (e :: es) ms) (hg : Gl X x := by rfl) (hdb : (x == ("__debug__" : Str)) = false := by decide) (he : starEach (e :: es) X.env = (false, eval e X.env) :: starEach es X.env := by rfl) (hpl : (backTo pos (starEach es X.env)).any (·.1) = false := by rfl) :
    Snd X (.Call (.Name x p) (e :: es) [] pos) (eCall n F ms) := fun {π N0 H0 N H σ ρ Q} I h =>
  ⟨_, pe_callG G hr hgd hm hk hb pa_wp hg hdb he hpl, ha I (T.all_mono (fun ds hd vs H2 e1 r => by
    obtain ⟨hn, hd⟩ := cond_all hd
    exact ⟨π, N, ds, I.hn.ext e1, r, by rw [r.length]; exact by simpa using hn, T.all_mono (fun d q v H3 e3 r3 => q v H3 (e1.trans e3) r3) hd⟩) (T.all_bind.mp h))⟩
end
theorem law_callG {P : Program} {w : World} {K : PySem.W.Frag} {mg mb : Str → Option Value} {k : Nat} {fa a : Addr} {fd : FuncData} {x : Str} {sp : Sp} {s0 : Shared} {vs : List Value} {ns : List Int}
    (hK : K.In s0.heap) (hns : s0.heap.Ns mainGlobals mg) (hb : s0.heap.Ns builtinsNs mb) (hbb : ∀ x : Str, x ≠ "__name__" → mb x = bootBuiltins x) (hlim : s0.heap.NoLimit) (hg : s0.gens = #[])
    (ha : s0.heap.get? a = some { cls := .type "list", data := .seq vs.toArray }) (hi : IntsAre vs ns) (hl : ns.length ≤ sizeLine) (hr : Room k callerA)
    (F : ∀ base : Heap, K.In base → base.Ns mainGlobals mg → FnG P w K mg base CX0 k fa fd [x] sp) (hbind : ∀ (s : Shared) (u : Value), BindsTo s fd ⟨[u], []⟩ [(x, u)])
    (hsp : ∀ H : Hp, Only H → SqL K H a (ns.map V.int) → sp [.ref a] H (fun v _ => v = .bl true) fun _ _ _ => False) :
    codeAny (model P w) callerA (.call (.ref fa) ⟨[.ref a], []⟩) (fun r s2 => r = .ok (.ret (.bool true)) ∧ OldK s0.heap s2.heap ∧ s2.os = s0.os ∧ AllBare s2.gens) s0 := by
  have rv := vals_ints hi
  have hvl := hi.length
  -- H tracks the script at most
  have main : ∀ H : Hp, Only H → SqL K H a (ns.map V.int) → HOk P w H s0.heap → (∀ b, H b ≠ none → b = a) → (H a ≠ none → K.lookup a = none) →
      codeAny (model P w) callerA (.call (.ref fa) ⟨[.ref a], []⟩) (fun r s2 => r = .ok (.ret (.bool true)) ∧ OldK s0.heap s2.heap ∧ s2.os = s0.os ∧ AllBare s2.gens) s0 := by
    intro H hO hS hok hA hn
    have old : ∀ {b : Addr} {o : Obj}, s0.heap.get? b = some o → H b = none → (hidT s0.heap H).get? b = some o := fun e n => hidT_get e n
    have dicts : ∀ {b : Addr} {o : Obj} {es : Array DictEntry} {ep : Nat}, s0.heap.get? b = some o → o.data = .dict es ep → H b = none := by
      intro b o es ep e d
      cases q : H b with
      | none => rfl
      | some u =>
        have eb := hA b (by rw [q]; simp)
        rw [eb, ha] at e
        cases e
        exact absurd d (fun z => by cases z)
    have spaces : ∀ {b : Addr} {m : Str → Option Value}, s0.heap.Ns b m → (hidT s0.heap H).Ns b m := fun ⟨o, es, ep, e, d, r⟩ => ⟨o, es, ep, old e (dicts e d), d, r⟩
    have kin : K.In (hidT s0.heap H) := fun b o e => old (hK b o e) (by
      cases q : H b with
      | none => rfl
      | some u =>
        have eb := hA b (by rw [q]; simp)
        rw [eb] at q e
        rw [hn (by rw [q]; simp)] at e
        cases e)
    have md : Mod K mg (hidT s0.heap H) := ⟨kin, spaces hns, ⟨mb, spaces hb, hbb⟩, let ⟨mc, h1, h2⟩ := hlim; ⟨mc, spaces h1, h2⟩⟩
    have e0 : Env0 P w K mg (hidT s0.heap H) callerA [] s0 H := ⟨rfl, md, fun b o e => of_hidT e, Nat.le_of_eq (hidT_size _ _), trivial, fun b hb => absurd (show b ∈ ([] : List Addr) from hb) (by simp), hok, .of_eq hg⟩
    refine codeAny_mono ((F _ kin (spaces hns)).run callerA [] s0 H ⟨[.ref a], []⟩ [.ref a] [.ref a] _ _ hr rfl e0 (hbind s0 (.ref a)) (.cons rfl .nil) (hsp H hO hS)) fun r s2 h => ?_
    cases r with
    | error e => exact False.elim h
    | ok fl =>
      cases fl with
      | ret u =>
        obtain ⟨v, H2, os, bare, un, hok2, rr, q⟩ := h
        cases (show v = .bl true from q)
        cases (show u = Value.bool true from rr)
        refine ⟨rfl, OldK.of_keep fun b o e => ?_, os, bare⟩
        cases q : H b with
        | none => exact un.keep b o e q (by simp [frs]) (by simp)
        | some u =>
          rcases hO b with z | ⟨ob, xs, z⟩
          · rw [q] at z; cases z
          · obtain ⟨g1, _⟩ := hok b _ z
            obtain ⟨g2, _⟩ := hok2 b _ (un.frzs b ob _ z)
            rw [e] at g1
            cases g1
            exact g2
      | next => exact False.elim h
      | brk => exact False.elim h
      | cont => exact False.elim h
  cases hk : K.lookup a with
  | some o =>
    have e := hK a o hk
    rw [ha] at e
    cases e
    exact main (fun _ => none) (fun _ => .inl rfl) (.inr ⟨_, vs.toArray, _, hk, rfl, rfl, rfl, by rw [List.size_toArray, hvl]; exact hl, by simpa using rv⟩) (fun b u z => nomatch (show (none : Option HO) = some u from z)) (fun b z => absurd rfl z) fun z => absurd rfl z
  | none =>
    let H : Hp := fun b => if b = a then some (.frz { cls := .type "list", data := .seq vs.toArray } (.lst (ns.map V.int))) else none
    have at_a : H a = some (.frz { cls := .type "list", data := .seq vs.toArray } (.lst (ns.map V.int))) := if_pos rfl
    have off : ∀ b, b ≠ a → H b = none := fun b nb => if_neg nb
    refine main H (fun b => ?_) (.inl (.inr ⟨_, at_a⟩)) (fun b u z => ?_) (fun b z => ?_) fun _ => hk
    · by_cases q : b = a
      · exact .inr ⟨_, _, by rw [q]; exact at_a⟩
      · exact .inl (off b q)
    · by_cases q : b = a
      · subst q
        rw [at_a] at z
        cases z
        exact ⟨ha, by rw [List.length_map]; exact hl, vs, _, rv, ha⟩
      · rw [off b q] at z; cases z
    · by_cases q : b = a
      · exact q
      · exact absurd (off b q) z
theorem walkG {l : PySem.W.OpenLaw} {n k : Nat} {q : Program} {loose : List Str} {XP : (Str → Option Value) → Heap → Prop} {YP : World → Heap → Prop} {d : DefRec} {K : Params → PySem.W.Frag} {sp : World → Sp} {x : Str}
    (hn : l.most = some n) (hn2 : n ≤ sizeLine) (hdf : d.params.defaults = []) (hr : Room k callerA) (hY : ∀ (w : World) (h : Heap), YP w h → (K w.params).In h)
    (F : ∀ (w : World) (mg : Str → Option Value) (fa : Addr) (h : Heap), (K w.params).In h → h.Ns mainGlobals mg → mg d.name = some (.ref fa) →
      ∃ fd : FuncData, (∀ (s : Shared) (u : Value), BindsTo s fd ⟨[u], []⟩ [(x, u)]) ∧ ∀ base : Heap, (K w.params).In base → base.Ns mainGlobals mg → FnG l.prog w (K w.params) mg base CX0 k fa fd [x] (sp w))
    (hsp : ∀ (w : World) (H : Hp) (a : Addr) (ns : List Int), ns.length ≤ n → Only H → SqL (K w.params) H a (ns.map V.int) → sp w [.ref a] H (fun v _ => v = .bl true) fun _ _ _ => False) :
    PySem.W.WalkO q loose XP YP l.row.toRowW d [] (fun f vs => PySem.call f vs) := by
  refine Att.attach_call hn hdf fun w s₀ s₁ mg mb fa o pm cd doc a vs ns G Y ho hd hcd hmg hobj hints hlen hg => ?_
  have kx := hY w _ Y
  obtain ⟨fd, hb, hF⟩ := F w mg fa _ kx G.T.g hmg
  exact law_callG kx G.T.g G.T.b G.T.builtins G.T.nolimit hg hobj hints (Nat.le_trans hlen hn2) hr hF hb fun H hO hS => hsp w H a ns hlen hO hS
def f__law_draw : List D → T D
  | [.pot, .int n] => cond (decide (0 < n) && decide (n ≤ 1000000)) (.draw n.toNat fun i => .ret (.int i)) .fail
  | _ => .fail
end Pd
namespace Pd
open PySem L2 PySem.Spec PyProof.Rows
/-- the class of that name -/
def ClsAt (K : PySem.W.Frag) (c : Str) (C : Addr) : Prop := PySem.W.nsIn K mainGlobals c = some (some (.ref C))
theorem ClsAt.one {K : PySem.W.Frag} {c : Str} {C C2 : Addr} (h : ClsAt K c C) (h2 : PySem.W.nsIn K mainGlobals c = some (some (.ref C2))) : C2 = C := by
  have e := h.symm.trans h2
  cases e
  rfl
/-- __init__'s promise: the new object's attributes from the arguments; all else stays -/
def spI (K : PySem.W.Frag) (P : Program) (w : World) (c : Str) (n : Nat) (F : List D → T (List (Str × D))) : Sp := fun vs H Q _ => ∃ (π : Addr) (N : Addr → Bool) (x dx C : Addr) (args : List V) (ds : List D), vs = .ref x :: args ∧ args.length = n ∧ HN π N H ∧ N x = true ∧ H x = some (.ins C dx []) ∧ ClsAt K c C ∧ RvL K P w π (Hide N H) args ds ∧
  (F ds).all fun fs => ∀ (H' : Hp) (fv : List (Str × V)), (∀ a o, a ≠ π → a ≠ x → H a = some o → H' a = some o) → PotOk H' π → H' x = some (.ins C dx fv) → RvF K P w π (Hide N H') fv fs → Q .non H'
def eMake (c : Str) (n : Nat) (dds : List D) (F : List D → T (List (Str × D))) (ms : Rho → T (List D)) : Rho → T D := fun ρ => (ms ρ).bind fun ds => cond (ds.length == n) ((F (ds ++ dds)).bind fun fs => .ret (.ins c fs)) .fail
section
variable {X : Cx} {e : Expr} {es : List Expr} {pos : Pos} {m : Rho → T D} {ms : Rho → T (List D)}
theorem made_env {π x dx C : Addr} {N : Addr → Bool} {H : Hp} (hn : HN π N H) (hx : H x = none) (hd : H dx = none) (ne : dx ≠ x) : HN π (plus N x) (upd (upd H dx (.own x)) x (.ins C dx [])) ∧ Kp π (Hide N H) (Hide (plus N x) (upd (upd H dx (.own x)) x (.ins C dx []))) ∧ (∀ a o, H a = some o → (upd (upd H dx (.own x)) x (.ins C dx [])) a = some o) := by
  have keep : ∀ a o, H a = some o → (upd (upd H dx (.own x)) x (.ins C dx [])) a = some o := fun a o h => by
    rw [upd_ne (ne_of_none h hx), upd_ne (ne_of_none h hd)]
    exact h
  refine ⟨⟨?_, ?_, fun a h => ?_⟩, fun a o n h => ?_, keep⟩
  · obtain ⟨p, q, h, r⟩ := hn.pot
    exact ⟨p, q, keep _ _ h, r⟩
  · have := hn.pot.ne hx
    simp [plus, hn.npi, this.symm]
  · rcases plus_or h with h | h
    · have q := hn.isS a h
      cases c : H a with
      | none => exact absurd c q
      | some o => rw [keep a o c]; exact fun z => by cases z
    · rw [h, upd_same]; exact fun z => by cases z
  · obtain ⟨na, ha⟩ := hide_some h
    have nx : a ≠ x := ne_of_none ha hx
    rw [hide_in (by simp [plus, na, nx])]
    exact keep a o ha
theorem s_make {k n : Nat} {C f : Addr} {fd : FuncData} {ps : List Str} {c x : Str} {p : Pos} {dvs : List V} {dv : List Value} {dds : List D} {F : List D → T (List (Str × D))} (M : Mk X.K C f) (G : FnOk X.prog X.w X.K X.mg X.base CX0 k f fd ps (spI X.K X.prog X.w c (n + dvs.length) F)) (hr : Room (k + 1) X.A) (hm : X.mg x = some (.ref C)) (at_ : ClsAt X.K c C)
    (hb : Binds X.K fd ps dv) (hd : Vals dvs dv) (hdd : ∀ π H, RvL X.K X.prog X.w π H dvs dds) (ha : SndA X (e :: es) ms) (hg : Gl X x := by rfl) (hdb : (x == ("__debug__" : Str)) = false := by decide) (he : starEach (e :: es) X.env = (false, eval e X.env) :: starEach es X.env := by rfl) (hpl : (backTo pos (starEach es X.env)).any (·.1) = false := by rfl) :
    Snd X (.Call (.Name x p) (e :: es) [] pos) (eMake c n dds F ms) := fun {π N0 H0 N H σ ρ Q} I h =>
  ⟨_, pe_make M G hr hg hm hb hd pass0 pa_wp hdb he hpl, ha I (T.all_mono (fun ds hds vs H1 e1 r x dx hx hdx ne => by
    obtain ⟨hl, hds⟩ := cond_all hds
    have hn := I.hn.ext e1
    obtain ⟨a1, a2, a3⟩ := made_env (C := C) hn hx hdx ne
    have hl : ds.length = n := by simpa using hl
    have Nx : N x = false := hn.new hx
    refine ⟨π, plus N x, x, dx, C, vs ++ dvs, ds ++ dds, rfl, by rw [List.length_append, r.length, hl], a1, plus_self, upd_same, at_, (r.mono a2).append (hdd _ _), T.all_mono (fun fs q H' fv keep pot hx2 rf => ⟨rfl, ?_⟩) (T.all_bind.mp hds)⟩
    have k2 : Kp π (Hide (plus N x) H') (Hide N H') := Kp.less fun a h => plus_old h
    refine q (.ref x) H' ⟨fun a o n h => ?_, pot⟩ (.ins at_ (by rw [hide_in Nx]; exact hx2) (hn.pot.ne hx) (RvF.mono k2 rf))
    have h1 := e1.kp a o n h
    exact keep a o n (ne_of_none h1 hx) (a3 a o h1)) (T.all_bind.mp h))⟩
def fieldD (f : Str) : List (Str × D) → Option D
  | [] => none
  | (g, d) :: r => cond (f == g) (some d) (fieldD f r)
theorem RvF.get {K : PySem.W.Frag} {P : Program} {w : World} {π : Addr} {H : Hp} {f : Str} : ∀ {ds : List (Str × D)} {vs : List (Str × V)} {d : D}, RvF K P w π H vs ds → fieldD f ds = some d → ∃ v, vs.lookup f = some v ∧ Rv K P w π H v d
  | _, _, _, .nil, e => by cases e
  | (g, dg) :: ds, _, d, .cons (v := v) r t, e => by
    unfold fieldD at e
    cases q : f == g with
    | true =>
      rw [q] at e
      cases e
      exact ⟨v, by simp [List.lookup, q], r⟩
    | false =>
      rw [q] at e
      obtain ⟨v', h1, h2⟩ := RvF.get t e
      exact ⟨v', by simp [List.lookup, q, h1], h2⟩
theorem RvF.none_of {K : PySem.W.Frag} {P : Program} {w : World} {π : Addr} {H : Hp} {f : Str} : ∀ {ds : List (Str × D)} {vs : List (Str × V)}, RvF K P w π H vs ds → fieldD f ds = none → vs.lookup f = none
  | _, _, .nil, _ => rfl
  | (g, dg) :: ds, _, .cons r t, e => by
    unfold fieldD at e
    cases q : f == g with
    | true => rw [q] at e; cases e
    | false =>
      rw [q] at e
      simp [List.lookup, q, RvF.none_of t e]
def optT {α : Type} : Option α → T α
  | some d => .ret d
  | none => .fail
theorem optT_all {α : Type} {P : α → Prop} {o : Option α} (h : (optT o).all P) : ∃ d, o = some d ∧ P d := by
  cases o with
  | some d => exact ⟨d, rfl, h⟩
  | none => exact False.elim h
def attrD (c f : Str) : D → T D
  | .ins c2 fs => cond (c2 == c) (optT (fieldD f fs)) .fail
  | _ => .fail
theorem attrD_all {c f : Str} {d : D} {P : D → Prop} (h : (attrD c f d).all P) : ∃ fs d2, d = .ins c fs ∧ fieldD f fs = some d2 ∧ P d2 := by
  unfold attrD at h
  split at h
  · rename_i c2 fs
    obtain ⟨ec, h⟩ := cond_all h
    obtain ⟨d2, q, h⟩ := optT_all h
    exact ⟨fs, d2, by rw [eq_of_beq ec], q, h⟩
  · exact False.elim h
theorem Rv.insE {K : PySem.W.Frag} {P : Program} {w : World} {π : Addr} {N : Addr → Bool} {H : Hp} {v : V} {c : Str} {fs : List (Str × D)} (r : Rv K P w π (Hide N H) v (.ins c fs)) : ∃ a dx C fv, v = .ref a ∧ PySem.W.nsIn K mainGlobals c = some (some (.ref C)) ∧ H a = some (.ins C dx fv) ∧ RvF K P w π (Hide N H) fv fs := by
  cases r with
  | ins hc h n r => exact ⟨_, _, _, _, rfl, hc, (hide_some h).2, r⟩
theorem s_attr {c f : Str} {C : Addr} (at_ : ClsAt X.K c C) (cl : Cls X.K C) (no : NoAttr X.K C f) (ha : Snd X e m) (hb : attributeBase e f X.env (eval e X.env) = eval e X.env := by rfl) : Snd X (.Attribute e f pos) (eUn (attrD c f) m) := fun {π N0 H0 N H σ ρ Q} I h =>
  ⟨_, pe_fld pe_wp hb, ha I (T.all_mono (fun d hd v H2 e2 r => by
    obtain ⟨fs, d2, rfl, q, hd⟩ := attrD_all hd
    obtain ⟨a, dx, C2, fv, rfl, hc, hx, rf⟩ := r.insE
    have e3 := at_.one hc
    subst e3
    obtain ⟨v2, hl, rv⟩ := rf.get q
    exact ⟨a, _, dx, fv, v2, rfl, hx, cl, no, hl, hd v2 H2 e2 rv⟩) (T.all_bind.mp h))⟩
def insD (c m : Str) (d : D) : T Unit := match d with
  | .ins c2 fs => cond (c2 == c && (fieldD m fs).isNone) (.ret ()) .fail
  | _ => .fail
theorem insD_all {c m : Str} {d : D} {P : Unit → Prop} (h : (insD c m d).all P) : ∃ fs, d = .ins c fs ∧ fieldD m fs = none ∧ P () := by
  unfold insD at h
  split at h
  · rename_i c2 fs
    obtain ⟨ec, h⟩ := cond_all h
    have ec := Bool.and_eq_true_iff.mp ec
    exact ⟨fs, by rw [eq_of_beq ec.1], by simpa using ec.2, h⟩
  · exact False.elim h
def eMeth (c m : Str) (n : Nat) (F : List D → T D) (ma : Rho → T D) (ms : Rho → T (List D)) : Rho → T D := fun ρ => (ma ρ).bind fun d => (insD c m d).bind fun _ => (ms ρ).bind fun ds => cond (ds.length == n) (F (d :: ds)) .fail
theorem meth_spec {π : Addr} {N : Addr → Bool} {H H1 H2 : Hp} {Q : VK} {n : Nat} {F : List D → T D} {x : V} {d : D} {vs : List V} {ds : List D} (hn : HN π N H) (e12 : Ex π H1 H2) (e : Ex π H H2) (rx : Rv X.K X.prog X.w π (Hide N H1) x d) (r : RvL X.K X.prog X.w π (Hide N H2) vs ds) (hl : ds.length = n) (h : (F (d :: ds)).all (Kd X π N H Q)) :
    spD X.K X.prog X.w (n + 1) F (x :: (vs ++ [])) H2 Q E0 := by
  rw [List.append_nil]
  exact ⟨π, N, d :: ds, hn.ext e, .cons (rx.mono e12.kp.hide) r, by rw [List.length_cons, r.length, hl], T.all_mono (fun _ q v H3 e3 r3 => q v H3 (e.trans e3) r3) h⟩
theorem s_meth0 {k : Nat} {C f : Addr} {fd : FuncData} {ps : List Str} {c m : Str} {F : List D → T D} {o : Expr} {mo : Rho → T D} {apos : Pos} {pl : Sem Bool} (at_ : ClsAt X.K c C) (cl : Cls X.K C) (hm : Meth X.K C m f) (G : FnOk X.prog X.w X.K X.mg X.base CX0 k f fd ps (spD X.K X.prog X.w 1 F)) (hr : Room k X.A) (hb : Binds X.K fd ps [])
    (ho : Snd X o mo)
    (ht : eval (.Call (.Attribute o m apos) [] [] pos) X.env = (do
      let ov ← eval o X.env
      standAt apos.atName
      let (f, first) ← holding [ov] (getMethod ov m pl)
      callWith pos f first (backTo pos (starEach [] X.env)) (backToKw pos (keywordEach [] X.env))) := by rfl) :
    Snd X (.Call (.Attribute o m apos) [] [] pos) (eMeth c m 0 F mo aNil) := fun {π N0 H0 N H σ ρ Q} I h =>
  ⟨_, pe_meth0 (pl := pl) pe_wp cl hm G hr hb .nil pass0 ht, ho I (T.all_mono (fun d hd => by
    intro x H1 e1 rx
    obtain ⟨fs, rfl, nf, hd⟩ := insD_all (T.all_bind.mp hd)
    obtain ⟨a, dx, C2, fv, rfl, hc, hx, rf⟩ := rx.insE
    have e3 := at_.one hc
    subst e3
    exact ⟨a, dx, fv, rfl, hx, rf.none_of nf, meth_spec (n := 0) I.hn (Ex.refl e1.pot) e1 rx .nil rfl hd⟩) (T.all_bind.mp h))⟩
def isC (c : Str) (d : D) : T Unit := match d with
  | .ins c2 _ => cond (c2 == c) (.ret ()) .fail
  | _ => .fail
theorem isC_all {c : Str} {d : D} {P : Unit → Prop} (h : (isC c d).all P) : ∃ fs, d = .ins c fs ∧ P () := by
  unfold isC at h
  split at h
  · rename_i c2 fs
    obtain ⟨ec, h⟩ := cond_all h
    exact ⟨fs, by rw [eq_of_beq ec], h⟩
  · exact False.elim h
def eProp (c : Str) (F : List D → T D) (mo : Rho → T D) : Rho → T D := fun ρ => (mo ρ).bind fun d => (isC c d).bind fun _ => F [d]
theorem s_prop {k : Nat} {C p g : Addr} {fd : FuncData} {ps : List Str} {c f : Str} {F : List D → T D} (at_ : ClsAt X.K c C) (cl : Cls X.K C) (hp : PropOf X.K C f p g) (G : FnOk X.prog X.w X.K X.mg X.base CX0 k g fd ps (spD X.K X.prog X.w 1 F)) (hr : Room (k + 1) X.A) (hb : Binds X.K fd ps []) (ho : Snd X e m)
    (hab : attributeBase e f X.env (eval e X.env) = eval e X.env := by rfl) : Snd X (.Attribute e f pos) (eProp c F m) := fun {π N0 H0 N H σ ρ Q} I h =>
  ⟨_, pe_prop pe_wp cl hp G hr hb .nil pass0 hab, ho I (T.all_mono (fun d hd => by
    intro x H1 e1 rx
    obtain ⟨fs, rfl, hd⟩ := isC_all (T.all_bind.mp hd)
    obtain ⟨a, dx, C2, fv, rfl, hc, hx, rf⟩ := id rx.insE
    have e3 := at_.one hc
    subst e3
    exact ⟨a, dx, fv, rfl, hx, meth_spec (n := 0) (vs := []) I.hn (Ex.refl e1.pot) e1 rx .nil rfl hd⟩) (T.all_bind.mp h))⟩
end
end Pd
namespace Pd
open PySem L2 PySem.Spec PyProof.Rows
theorem back_of {Q : Value → Shared → Prop} {v : V} {u : Value} {s : Shared} (r : RelV v u) (h : Q u s) : PySem.W.CmpBack Q u s := by
  cases v with
  | non => cases r; exact h
  | bl b => cases r; exact h
  | int i => obtain ⟨t, rfl⟩ := r; exact h
  | str x => obtain ⟨t, rfl⟩ := r; exact h
  | byt b => obtain ⟨t, rfl⟩ := r; exact h
  | flt b => obtain ⟨t, rfl⟩ := r; exact h
  | ref a => cases r; exact h
  | ty n => cases r; exact h
section
variable {X : Cx} {a : Expr} {pos : Pos} {ma : Rho → T D}
def right2 (c : Str) (F : List D → T D) (x : D) : D → T D
  | .int i => F [x, .int i]
  | y => (isC c y).bind fun _ => F [x, y]
theorem right2_all {c : Str} {F : List D → T D} {x y : D} {P : D → Prop} (h : (right2 c F x y).all P) : ((∃ i, y = .int i) ∨ ∃ gs, y = .ins c gs) ∧ (F [x, y]).all P := by
  cases y with
  | int i => exact ⟨.inl ⟨i, rfl⟩, h⟩
  | ins c2 gs =>
    obtain ⟨gs2, e, h⟩ := isC_all (T.all_bind.mp (show ((isC c (.ins c2 gs)).bind fun _ => F [x, .ins c2 gs]).all P from h))
    exact ⟨.inr ⟨gs2, e⟩, h⟩
  | _ => exact False.elim h
def opOwn (c : Str) (F : List D → T D) : D → D → T D := fun x y => (isC c x).bind fun _ => right2 c F x y
end
end Pd
namespace Pd
open PySem L2 PySem.Spec PyProof.Rows
/-- the class is one whose instances isinstance may be asked of -/
structure ClsTy (K : PySem.W.Frag) (C : Addr) : Prop where
  ty : ∀ (H : Hp) (a dx : Addr) (fs : List (Str × V)), H a = some (.ins C dx fs) → TyOf K H (.ref a) (.ref C)
  no : ∀ t : Ty5, PySem.W.kitOne K (.ref C) (.type t.nm) = some false
  is : ∀ t : Ty5, PySem.W.kitOne K (.type t.nm) (.ref C) = some false
def KnownC (K : PySem.W.Frag) (cs : List Str) : Prop := ∀ c, cs.contains c = true → ∃ C, ClsAt K c C ∧ ClsTy K C
/-- isinstance(d, a built-in type) -/
def isDC (cs : List Str) (k : Ty5) (d : D) : T D := match d with
  | .ins c _ => cond (cs.contains c) (.ret (.bl false)) .fail
  | d => isD k d
/-- isinstance(d, the class of that name) -/
def isOC (cs : List Str) (c0 : Str) (d : D) : T D := match d with
  | .ins c _ => cond (c == c0) (.ret (.bl true)) (cond (cs.contains c) (.ret (.bl false)) .fail)
  | d => (optT (tyD d)).bind fun _ => .ret (.bl false)
section
variable {X : Cx} {pos : Pos} {e : Expr} {m : Rho → T D}
theorem isi_ins {π : Addr} {N : Addr → Bool} {H : Hp} {v : V} {c : Str} {fs : List (Str × D)} {cs : List Str} (kn : KnownC X.K cs) (hc : cs.contains c = true) (r : Rv X.K X.prog X.w π (Hide N H) v (.ins c fs)) : ∃ C, ClsAt X.K c C ∧ ClsTy X.K C ∧ TyX X.K H v (.ref C) := by
  obtain ⟨C, at_, ct⟩ := kn c hc
  obtain ⟨a, dx, C2, fv, rfl, h2, hx, _⟩ := r.insE
  have e3 := at_.one h2
  subst e3
  exact ⟨C2, at_, ct, .base (ct.ty H a dx fv hx)⟩
theorem isD_all {k : Ty5} {d : D} {P : D → Prop} (h : (isD k d).all P) : ∃ t, tyD d = some t ∧ P (.bl (Ty5.sub t k)) := by
  unfold isD at h
  split at h
  · exact ⟨_, by assumption, h⟩
  · exact False.elim h
theorem s_isinstC (cs : List Str) {k : Ty5} {ty : Str} {p p2 : Pos} (kn : KnownC X.K cs) (hm : X.mg "isinstance" = none) (hmt : X.mg ty = none) (hb : bootBuiltins ty = some (.type k.nm)) (ha : Snd X e m) (hg : Gl X "isinstance" := by rfl) (hgt : Gl X ty := by rfl) (hbi : bootBuiltins "isinstance" = some (.builtin "isinstance") := by decide +kernel) (hn : ty ≠ "__name__" := by decide) (hd : (ty == ("__debug__" : Str)) = false := by decide)
    (he : starEach [e, .Name ty p] X.env = (false, eval e X.env) :: starEach [.Name ty p] X.env := by rfl) (he2 : starEach [.Name ty p] X.env = (false, eval (.Name ty p) X.env) :: starEach [] X.env := by rfl) (hpl : (backTo pos (starEach [.Name ty p] X.env)).any (·.1) = false := by rfl) :
    Snd X (.Call (.Name "isinstance" p2) [e, .Name ty p] [] pos) (eUn (isDC cs k) m) := fun {π N0 H0 N H σ ρ Q} I h =>
  ⟨_, pe_callB call_isi hg hm hbi (pa_cons pe_wp (pa_cons (pe_bltn (v := .ty k.nm) hgt hmt hb rfl hn hd) pa_nil he2) he) (by decide) (by decide) he hpl, ha I (T.all_mono (fun d hd => by
    intro v H2 e2 r
    unfold isDC at hd
    split at hd
    · obtain ⟨hc, hd⟩ := cond_all hd
      obtain ⟨C, at_, ct, tx⟩ := isi_ins kn hc r
      exact ⟨v, .ty k.nm, .ref C, .type k.nm, false, rfl, .ty _, tx, ct.no k, hd _ _ e2 (.bl _)⟩
    · obtain ⟨t, c, hd⟩ := isD_all hd
      exact ⟨v, .ty k.nm, .type t.nm, .type k.nm, Ty5.sub t k, rfl, .ty _, ty_of r c, kit_ty (kitB_sub t k), hd _ _ e2 (.bl _)⟩) (T.all_bind.mp h))⟩
theorem s_isinstO (cs : List Str) {c0 : Str} {C0 : Addr} {p p2 : Pos} (kn : KnownC X.K cs) (at0 : ClsAt X.K c0 C0) (ct0 : ClsTy X.K C0) (df : ∀ c C, cs.contains c = true → (c == c0) = false → ClsAt X.K c C → PySem.W.kitOne X.K (.ref C) (.ref C0) = some false) (hm : X.mg "isinstance" = none) (hmt : X.mg c0 = some (.ref C0)) (ha : Snd X e m) (hg : Gl X "isinstance" := by rfl) (hgt : Gl X c0 := by rfl)
    (hbi : bootBuiltins "isinstance" = some (.builtin "isinstance") := by decide +kernel) (hd : (c0 == ("__debug__" : Str)) = false := by decide)
    (he : starEach [e, .Name c0 p] X.env = (false, eval e X.env) :: starEach [.Name c0 p] X.env := by rfl) (he2 : starEach [.Name c0 p] X.env = (false, eval (.Name c0 p) X.env) :: starEach [] X.env := by rfl) (hpl : (backTo pos (starEach [.Name c0 p] X.env)).any (·.1) = false := by rfl) :
    Snd X (.Call (.Name "isinstance" p2) [e, .Name c0 p] [] pos) (eUn (isOC cs c0) m) := fun {π N0 H0 N H σ ρ Q} I h =>
  ⟨_, pe_callB call_isi hg hm hbi (pa_cons pe_wp (pa_cons (pe_glob hgt hmt (v := .ref C0) rfl hd) pa_nil he2) he) (by decide) (by decide) he hpl, ha I (T.all_mono (fun d hz => by
    intro v H2 e2 r
    unfold isOC at hz
    split at hz
    · rename_i c fs
      cases q : (c == c0) with
      | true =>
        rw [q] at hz
        have ec := eq_of_beq q
        subst ec
        obtain ⟨a, dx, C2, fv, rfl, h2, hx, _⟩ := r.insE
        have e3 := at0.one h2
        subst e3
        refine ⟨.ref a, .ref C2, .ref C2, .ref C2, true, rfl, .own _, .base (ct0.ty _ a dx fv hx), ?_, hz _ _ e2 (.bl _)⟩
        unfold PySem.W.kitOne
        rw [if_pos (beq_self_eq_true _)]
      | false =>
        rw [q] at hz
        obtain ⟨hc, hz⟩ := cond_all (show (cond (cs.contains c) (T.ret (D.bl false)) .fail).all _ from hz)
        obtain ⟨C, at_, ct, tx⟩ := isi_ins kn hc r
        exact ⟨v, .ref C0, .ref C, .ref C0, false, rfl, .own _, tx, df c C hc q at_, hz _ _ e2 (.bl _)⟩
    · obtain ⟨t, c, hz⟩ := optT_all (T.all_bind.mp hz)
      exact ⟨v, .ref C0, .type t.nm, .ref C0, false, rfl, .own _, ty_of r c, ct0.is t, hz _ _ e2 (.bl _)⟩) (T.all_bind.mp h))⟩
end
end Pd
namespace Pd
open PySem L2 PySem.Spec PyProof.Rows
structure CmpOwn (K : PySem.W.Frag) (C : Addr) (op : CmpOp) (f : Addr) : Prop where
  at_ : PySem.W.findIn K (.ref C) (cmpInfo op).2.1 = some (some (.ref f))
  fn : PySem.W.isFn K (.ref f) = true
  num : PySem.W.notFirst K C (.type "int") = true
  self : PySem.W.notFirst K C (.ref C) = true
section
variable {X : Cx}
theorem op_cmpOwn {op : CmpOp} {k : Nat} {C f : Addr} {fd : FuncData} {ps : List Str} {F : List D → T D} (hop : op ≠ .Is ∧ op ≠ .IsNot ∧ op ≠ .In ∧ op ≠ .NotIn) (O : CmpOwn X.K C op f) (G : FnOk X.prog X.w X.K X.mg X.base CX0 k f fd ps (spD X.K X.prog X.w 2 F)) (hr : Room k X.A) (hb : Binds X.K fd ps []) :
    OpR X (compareOp op) (fun x y H Q => ∃ a dx fv, x = .ref a ∧ H a = some (.ins C dx fv) ∧ ((∃ i, y = .int i) ∨ ∃ b dx2 fw, y = .ref b ∧ H b = some (.ins C dx2 fw)) ∧ spD X.K X.prog X.w 2 F [x, y] H Q E0) := by
  intro pins s σ H x y v u Q I rx ry h
  obtain ⟨a, dx, fv, rfl, ha, hy, h⟩ := h
  cases rx
  obtain ⟨mA, M, _, _, _, _⟩ := ins_get I.hok ha
  obtain ⟨od, J, _⟩ := M.look
  obtain ⟨m, Fr0⟩ := I.fr
  have hu : X.A.units < cLine := by have := hr.un; omega
  have call1 := run_fn (dvs := []) (ds := []) G hr hb .nil pass0 I (vs := [.ref a, y]) (us := [.ref a, u]) (.cons rfl (.cons ry .nil)) h
  have call2 := wpAny_mono call1 (fun r s2 hs => by
    obtain ⟨v2, H2, I2, rv, q⟩ := hs
    exact back_of (Q := EP X pins σ Q) rv ⟨v2, H2, I2, rv, q⟩) fun _ _ z => z
  have rich : ∀ (tb : Value), PySem.W.Looks (model X.prog X.w) s.heap (typeOf u) tb → PySem.W.notFirst X.K C tb = true → wpAny (model X.prog X.w) X.A (compareOp op (.ref a) u) (EP X pins σ Q) X.xe s := fun tb hl hn => by
    have z := PySem.W.cmp_K hu Fr0 I.ok.mod.kin J hl hn O.at_ O.fn call2
    cases op with
    | Is => exact absurd rfl hop.1
    | IsNot => exact absurd rfl hop.2.1
    | In => exact absurd rfl hop.2.2.1
    | NotIn => exact absurd rfl hop.2.2.2
    | _ => exact z
  rcases hy with ⟨i, rfl⟩ | ⟨b, dx2, fw, rfl, hb2⟩
  · obtain ⟨t, rfl⟩ := ry
    exact rich (.type "int") (PySem.W.Looks.of_pure rfl) O.num
  · cases ry
    obtain ⟨mB, M2, _, _, _, _⟩ := ins_get I.hok hb2
    obtain ⟨od2, J2, _⟩ := M2.look
    exact rich (.ref C) J2.type O.self
theorem os_cmpOwn {op : CmpOp} {k : Nat} {c : Str} {C f : Addr} {fd : FuncData} {ps : List Str} {F : List D → T D} (hop : op ≠ .Is ∧ op ≠ .IsNot ∧ op ≠ .In ∧ op ≠ .NotIn) (at_ : ClsAt X.K c C) (O : CmpOwn X.K C op f) (G : FnOk X.prog X.w X.K X.mg X.base CX0 k f fd ps (spD X.K X.prog X.w 2 F)) (hr : Room k X.A) (hb : Binds X.K fd ps []) : OpSnd X (compareOp op) (opOwn c F) := fun {π N H x y dx dy Q} hn rx ry h => by
  unfold opOwn at h
  obtain ⟨fs, rfl, h⟩ := isC_all (T.all_bind.mp h)
  obtain ⟨a, d1, C2, fv, rfl, hc, hx, rf⟩ := id rx.insE
  have e3 := at_.one hc
  subst e3
  refine ⟨_, op_cmpOwn hop O G hr hb, a, d1, fv, rfl, hx, ?_⟩
  obtain ⟨hy, h⟩ := right2_all h
  refine ⟨?_, π, N, _, hn, .cons rx (.cons ry .nil), rfl, h⟩
  rcases hy with ⟨i, rfl⟩ | ⟨gs, rfl⟩
  · exact .inl ⟨i, ry.intE⟩
  · obtain ⟨b, d2, C3, fw, rfl, hc3, hy, _⟩ := id ry.insE
    have e4 := at_.one hc3
    subst e4
    exact .inr ⟨b, d2, fw, rfl, hy⟩
/-- an own comparison, or that of plain data -/
def cmpAny (c : Str) (f : D → D → T D) (F : List D → T D) : D → D → T D
  | .ins c2 fs, y => opOwn c F (.ins c2 fs) y
  | x, y => f x y
theorem os_cmpAny {op : CmpOp} {k : Nat} {c : Str} {C f : Addr} {fd : FuncData} {ps : List Str} {g : D → D → T D} {F : List D → T D} (h0 : OpSnd X (compareOp op) g) (hop : op ≠ .Is ∧ op ≠ .IsNot ∧ op ≠ .In ∧ op ≠ .NotIn) (at_ : ClsAt X.K c C) (O : CmpOwn X.K C op f) (G : FnOk X.prog X.w X.K X.mg X.base CX0 k f fd ps (spD X.K X.prog X.w 2 F)) (hr : Room k X.A) (hb : Binds X.K fd ps []) : OpSnd X (compareOp op) (cmpAny c g F) := fun {π N H x y dx dy Q} hn rx ry h => by
  unfold cmpAny at h
  split at h
  · exact os_cmpOwn hop at_ O G hr hb hn rx ry h
  · exact h0 hn rx ry h
end
end Pd
namespace Pd
open PySem L2 PySem.Spec PyProof.Rows
section
variable {X : Cx} {e a b : Expr} {pos : Pos} {m ma mb : Rho → T D}
def strD : D → Option Str
  | .int i => cond (decide (i.natAbs.log2 < 1920)) (some (toString i)) none
  | .str x => cond (decide (x.length ≤ 100000)) (some x) none
  | _ => none
theorem strD_some {d : D} {x : Str} (h : strD d = some x) : (∃ i : Int, d = .int i ∧ i.natAbs.log2 < 1920 ∧ x = toString i) ∨ (d = .str x ∧ x.length ≤ sizeLine) := by
  unfold strD at h
  split at h
  · rename_i i
    cases c : decide (i.natAbs.log2 < 1920) with
    | true => rw [c] at h; cases h; exact .inl ⟨i, rfl, of_decide_eq_true c, rfl⟩
    | false => rw [c] at h; cases h
  · rename_i y
    cases c : decide (y.length ≤ 100000) with
    | true => rw [c] at h; cases h; exact .inr ⟨rfl, Nat.le_trans (of_decide_eq_true c) (by decide)⟩
    | false => rw [c] at h; cases h
  · cases h
def eFmt (m : Rho → T D) : Rho → T D := fun ρ => (m ρ).bind fun d => (optT (strD d)).bind fun x => .ret (.str x)
theorem s_fmt (ha : Snd X e m) : Snd X (.FormattedValue e (-1) none pos) (eFmt m) := fun {π N0 H0 N H σ ρ Q} I h =>
  ⟨_, pe_fmt pe_wp, ha I (T.all_mono (fun d hd => by
    intro v H2 e2 r
    obtain ⟨x, eq1, g1⟩ := optT_all (T.all_bind.mp hd)
    rcases strD_some eq1 with ⟨i, rfl, hi, rfl⟩ | ⟨rfl, hx⟩
    · cases r
      exact .inr ⟨i, rfl, hi, g1 _ _ e2 (.str _)⟩
    · cases r
      exact .inl ⟨x, rfl, hx, g1 _ _ e2 (.str _)⟩) (T.all_bind.mp h))⟩
inductive SndJ (X : Cx) : List Expr → List (Rho → T D) → Prop where
  | nil : SndJ X [] []
  | cons {e : Expr} {m : Rho → T D} {es : List Expr} {ms : List (Rho → T D)} : Snd X e m → SndJ X es ms → SndJ X (e :: es) (m :: ms)
def joinT : List (Rho → T D) → Str → Rho → T D
  | [], acc, _ => .ret (.str acc)
  | m :: ms, acc, ρ => (m ρ).bind fun d => match d with
    | .str y => cond (decide ((acc ++ y).length ≤ 100000)) (joinT ms (acc ++ y) ρ) .fail
    | _ => .fail
theorem sndJ_wp : ∀ {es : List Expr} {ms : List (Rho → T D)}, SndJ X es ms → PJ X es (es.map (wpE X))
  | _, _, .nil => .nil
  | _, _, .cons _ r => .cons pe_wp (sndJ_wp r)
theorem join_run {π : Addr} {N0 : Addr → Bool} {H0 : Hp} {N : Addr → Bool} {σ : L2.St} {ρ : Rho} : ∀ {es : List Expr} {ms : List (Rho → T D)} {acc : Str} {H : Hp} {Q : VK}, SndJ X es ms → EnvOk X.K X.prog X.w π N0 H0 N H σ ρ → (joinT ms acc ρ).all (Kd X π N H Q) → tJs (es.map (wpE X)) acc σ H fun out H1 => Q (.str out) H1
  | _, _, _, H, _, .nil, I, h => h _ H (Ex.refl I.hn.pot) (.str _)
  | _, _, acc, H, Q, .cons he hr, I, h => by
    refine he I (T.all_mono (fun d hd => ?_) (T.all_bind.mp h))
    intro v H2 e2 r
    split at hd
    · obtain ⟨hl, hd⟩ := cond_all hd
      cases r
      exact ⟨_, rfl, Nat.le_trans (of_decide_eq_true hl) (by decide), join_run hr (I.ext e2) (T.all_mono (fun _ q => q.up e2) hd)⟩
    · exact False.elim hd
theorem s_join {v1 v2 : Expr} {rest : List Expr} {ms : List (Rho → T D)} (h : SndJ X (v1 :: v2 :: rest) ms) : Snd X (.JoinedStr (v1 :: v2 :: rest) pos) (joinT ms Str.empty) := fun {π N0 H0 N H σ ρ Q} I q => ⟨_, pe_joined (sndJ_wp h), join_run h I q⟩
end
end Pd
namespace Pd
open PySem L2 PySem.Spec PyProof.Rows
structure OwnTxt (K : PySem.W.Frag) (C : Addr) (nm : Str) (f : Addr) : Prop where
  at_ : PySem.W.findIn K (.ref C) nm = some (some (.ref f))
  fn : PySem.W.isFn K (.ref f) = true
section
variable {X : Cx} {e : Expr} {es : List Expr} {pos : Pos} {m : Rho → T D}
def KBind1 (K : PySem.W.Frag) (fd : FuncData) (ps ks : List Str) (perm : List Nat) : Prop := ∀ (s : Shared) (r : Value) (us : List Value), K.In s.heap → us.length = ks.length → BindsTo s fd ⟨[r], ks.zip us⟩ (ps.zip (r :: perm.map fun i => us.getD i .none))
def eMakeK (c : Str) (n : Nat) (perm : List Nat) (F : List D → T (List (Str × D))) (ms : Rho → T (List D)) : Rho → T D := fun ρ => (ms ρ).bind fun ds => cond (ds.length == n) ((F (pickD perm ds)).bind fun fs => .ret (.ins c fs)) .fail
theorem KBind1.kbn {K : PySem.W.Frag} {fd : FuncData} {ps ks : List Str} {perm : List Nat} (h : KBind1 K fd ps ks perm) : KBn K fd ps 1 ks (fun us ws => us ++ perm.map fun i => ws.getD i .none) (fun vs zs => vs ++ perm.map fun i => zs.getD i .non) :=
  ⟨fun s us ws X l1 l2 => match us, l1 with | [r], _ => h s r ws X l2, fun r rz => r.append (vals_pick rz perm)⟩
theorem s_makeK {k n : Nat} {C f : Addr} {fd : FuncData} {ps ks : List Str} {perm : List Nat} {c x : Str} {p : Pos} {F : List D → T (List (Str × D))} {kws : List Keyword} {ms : Rho → T (List D)} (M : Mk X.K C f) (G : FnOk X.prog X.w X.K X.mg X.base CX0 k f fd ps (spI X.K X.prog X.w c n F)) (hr : Room (k + 1) X.A) (hm : X.mg x = some (.ref C)) (at_ : ClsAt X.K c C)
    (hb : KBind1 X.K fd ps ks perm) (hp : perm.length = n) (hkn : ks.length = n) (ha : SndK X kws ms) (hg : Gl X x := by rfl) (hall : (backToKw pos (keywordEach kws X.env)).all (·.1.isSome) = true := by rfl) (hks : (backToKw pos (keywordEach kws X.env)).filterMap (·.1) = ks := by rfl)
    (hdb : (x == ("__debug__" : Str)) = false := by decide) (hpl : ((backTo pos (starEach [] X.env)).any (·.1) || (backToKw pos (keywordEach kws X.env)).any (·.1.isNone)) = false := by rfl) : Snd X (.Call (.Name x p) [] kws pos) (eMakeK c n perm F ms) := fun {π N0 H0 N H σ ρ Q} I h =>
  ⟨_, pe_makeK0 M G hr hg hm hb.kbn pass0 pk_wp hall hks hdb hpl, ha I (T.all_mono (fun ds hds vs H1 e1 r => by
    obtain ⟨hl, hds⟩ := cond_all hds
    have hl : ds.length = n := by simpa using hl
    refine ⟨rfl, by rw [r.length, hl, hkn], fun x dx hx hdx ne => ?_⟩
    have hn := I.hn.ext e1
    obtain ⟨a1, a2, a3⟩ := made_env (C := C) hn hx hdx ne
    have Nx : N x = false := hn.new hx
    refine ⟨π, plus N x, x, dx, C, perm.map fun i => vs.getD i .non, pickD perm ds, rfl, by rw [List.length_map, hp], a1, plus_self, upd_same, at_, rvl_pick (r.mono a2) perm, T.all_mono (fun fs q H' fv keep pot hx2 rf => ⟨rfl, ?_⟩) (T.all_bind.mp hds)⟩
    have k2 : Kp π (Hide (plus N x) H') (Hide N H') := Kp.less fun a h => plus_old h
    refine q (.ref x) H' ⟨fun a o n h => ?_, pot⟩ (.ins at_ (by rw [hide_in Nx]; exact hx2) (hn.pot.ne hx) (RvF.mono k2 rf))
    have h1 := e1.kp a o n h
    exact keep a o n (ne_of_none h1 hx) (a3 a o h1)) (T.all_bind.mp h))⟩
end
end Pd
namespace Pd
open PySem L2 PySem.Spec PyProof.Rows
section
variable {X : Cx} {a b e : Expr} {es : List Expr} {ma mb m : Rho → T D} {pos : Pos}
theorem RvL.reverse {K : PySem.W.Frag} {P : Program} {w : World} {π : Addr} {H : Hp} : ∀ {ds : List D} {vs : List V}, RvL K P w π H vs ds → RvL K P w π H vs.reverse ds.reverse
  | _, _, .nil => .nil
  | _, _, .cons r t => by
    rw [List.reverse_cons, List.reverse_cons]
    exact (RvL.reverse t).append (.cons r .nil)
def lRev (m : Rho → T D) : Rho → T (List D) := fun ρ => (m ρ).bind fun d => (asL d).bind fun ds => .ret ds.reverse
theorem asL_all {d : D} {P : List D → Prop} (h : (asL d).all P) : ∃ ds, d = .lst ds ∧ P ds := by
  unfold asL at h
  split at h
  · exact ⟨_, rfl, h⟩
  · exact False.elim h
theorem Kl.made {π : Addr} {N : Addr → Bool} {H H1 : Hp} {Q : VK} {ds : List D} {vs : List V} {p : Addr} (h : Kl X π N H Q ds) (pt : PotOk H π) (e : Ex π H H1) (r : RvL X.K X.prog X.w π (Hide N H1) vs ds) (hp : H1 p = none) : Q (.ref p) (upd H1 p (.lst vs)) := by
  have hp0 : H p = none := by
    cases c : H p with
    | none => rfl
    | some o => rw [e.kp p o (e.pot.ne hp) c] at hp; cases hp
  exact h p vs _ (e.trans (Ex.new e.pot hp)) hp0 upd_same (r.mono ((Ex.new e.pot hp).hidden hp))
theorem sl_rev {k : Nat} {p1 p2 p3 : Pos} (ha : Snd X a ma) : SndL X (.Subscript a (.Slice none none (some (.UnaryOp .USub (.Constant (.int 1) k p1) p2)) p3) pos) (lRev ma) := fun {π N0 H0 N H σ ρ Q} I h =>
  ⟨_, pe_revL pe_wp, ha I (T.all_mono (fun d hd v H1 e r => by
    obtain ⟨ds, rfl, hd⟩ := asL_all (T.all_bind.mp hd)
    obtain ⟨l, vs, rfl, hl, _, _, rl⟩ := id r.lstE
    exact ⟨l, vs, rfl, .inl (.inl hl), fun p hp => Kl.made hd I.hn.pot e rl.reverse hp⟩) (T.all_bind.mp h))⟩
def lRep (ma mb : Rho → T D) : Rho → T (List D) := fun ρ => (ma ρ).bind fun d => (asL d).bind fun ds => (mb ρ).bind fun k => match k with
  | .int k => cond (decide (0 ≤ k) && decide (k ≤ 1000) && decide (ds.length ≤ 100)) (.ret (rep k.toNat ds)) .fail
  | _ => .fail
theorem sl_rep (ha : Snd X a ma) (hb : Snd X b mb) : SndL X (.BinOp a .Mult b pos) (lRep ma mb) := fun {π N0 H0 N H σ ρ Q} I h =>
  ⟨_, pe_op op_rep pe_wp pe_wp, ha I (T.all_mono (fun d hd v H1 e r => by
    obtain ⟨ds, rfl, hd⟩ := asL_all (T.all_bind.mp hd)
    refine hb (I.ext e) (T.all_mono (fun k hk v2 H2 e2 r2 => ?_) (T.all_bind.mp hd))
    split at hk
    · rename_i k
      obtain ⟨hc, hk⟩ := cond_all hk
      simp only [Bool.and_eq_true, decide_eq_true_eq] at hc
      obtain ⟨⟨c0, c1⟩, c2⟩ := hc
      cases r2
      obtain ⟨l, vs, rfl, hl, n1, n2, rl⟩ := id r.lstE
      have hl2 := e2.kp l _ n2 hl
      refine ⟨l, k, vs, rfl, rfl, hl2, by omega, by omega, ?_, fun p hp => Kl.made hk I.hn.pot (e.trans e2) (rep_rv (rl.mono e2.kp.hide) _) hp⟩
      rw [rl.length]
      have : ds.length * k.toNat ≤ 100 * 1000 := Nat.mul_le_mul c2 (by omega)
      exact Nat.le_trans this (by decide)
    · exact False.elim hk) (T.all_bind.mp h))⟩
end
end Pd
namespace Pd
open PySem L2 PySem.Spec PyProof.Rows
section
variable {X : Cx} {π : Addr} {N0 N : Addr → Bool} {H0 H : Hp} {pins : List (Addr × Obj)} {σ : L2.St} {ρ : Rho} {s : Shared} {pos : Pos} {e : Expr} {m : Rho → T D}
theorem call_isiD : CallR X (.builtin "isinstance") (fun xs H Q => ∃ (a : Addr) (ys : List (NestedKey × Addr × V)) (c : V) (u : Value) (b : Bool), xs = [.ref a, c] ∧ ClsV c u ∧ Rd H a (DN X.prog X.w a ys) ∧ EntAt X H ys ∧ PySem.W.kitOne X.K (.type "dict") u = some b ∧ Q (.bl b) H) := by
  intro pins s σ H xs us Q I r h
  obtain ⟨a, ys, c, u, b, rfl, k, hr, en, e, q⟩ := h
  obtain ⟨u1, u2, rfl, r1, r2⟩ := vals2 r
  cases (show u1 = Value.ref a from r1)
  have e2 := k.eq r2
  subst e2
  obtain ⟨_, _, zs, _, o, es, ep, h1, h2, _⟩ := dn_of I hr en
  exact PySem.W.kia_one PySem.W.kitx_dict I.kIn ⟨o, h1, h2.1⟩ e (fun z => nomatch z) fun tk => ⟨.bl b, H, I.tok tk, rfl, q⟩
def isDY (cs : List Str) (k : Ty5) (d : D) : T D := match d with
  | .dic _ => .ret (.bl (Ty5.sub .dict k))
  | d => isDC cs k d
theorem kit_dict (k : Ty5) : kitB "dict" k.nm = some (Ty5.sub .dict k) := by cases k <;> decide +kernel
theorem Rv.dicR {K : PySem.W.Frag} {P : Program} {w : World} {π : Addr} {N : Addr → Bool} {H : Hp} {v : V} {kvs : List (D × D)} (r : Rv K P w π (Hide N H) v (.dic kvs)) : ∃ a xs, v = .ref a ∧ Rd H a (DN P w a xs) ∧ ∃ kvs', RvD K P w π (Hide N H) xs kvs' := by
  obtain ⟨a, od, xs, rfl, h, _, _, rd⟩ := r.dicE
  exact ⟨a, xs, rfl, .inr ⟨od, h⟩, _, rd⟩
theorem s_isinstY (cs : List Str) {k : Ty5} {ty : Str} {p p2 : Pos} (kn : KnownC X.K cs) (hm : X.mg "isinstance" = none) (hmt : X.mg ty = none) (hb : bootBuiltins ty = some (.type k.nm)) (ha : Snd X e m) (hg : Gl X "isinstance" := by rfl) (hgt : Gl X ty := by rfl) (hbi : bootBuiltins "isinstance" = some (.builtin "isinstance") := by decide +kernel) (hn : ty ≠ "__name__" := by decide) (hd : (ty == ("__debug__" : Str)) = false := by decide)
    (he : starEach [e, .Name ty p] X.env = (false, eval e X.env) :: starEach [.Name ty p] X.env := by rfl) (he2 : starEach [.Name ty p] X.env = (false, eval (.Name ty p) X.env) :: starEach [] X.env := by rfl) (hpl : (backTo pos (starEach [.Name ty p] X.env)).any (·.1) = false := by rfl) :
    Snd X (.Call (.Name "isinstance" p2) [e, .Name ty p] [] pos) (eUn (isDY cs k) m) := fun {π N0 H0 N H σ ρ Q} I h =>
  ⟨_, pe_callB ca_wp hg hm hbi (pa_cons pe_wp (pa_cons (pe_bltn (v := .ty k.nm) hgt hmt hb rfl hn hd) pa_nil he2) he) (by decide) (by decide) he hpl, ha I (T.all_mono (fun d hd => by
    intro v H2 e2 r
    unfold isDY at hd
    split at hd
    · obtain ⟨a, xs, rfl, rd, kvs, rk⟩ := r.dicR
      exact ⟨_, call_isiD, a, xs, .ty k.nm, .type k.nm, Ty5.sub .dict k, rfl, .ty _, rd, ⟨_, _, _, rk⟩, kit_ty (kit_dict k), hd _ _ e2 (.bl _)⟩
    · unfold isDC at hd
      split at hd
      · obtain ⟨hc, hd⟩ := cond_all hd
        obtain ⟨C, at_, ct, tx⟩ := isi_ins kn hc r
        exact ⟨_, call_isi, v, .ty k.nm, .ref C, .type k.nm, false, rfl, .ty _, tx, ct.no k, hd _ _ e2 (.bl _)⟩
      · obtain ⟨t, c, hd⟩ := isD_all hd
        exact ⟨_, call_isi, v, .ty k.nm, .type t.nm, .type k.nm, Ty5.sub t k, rfl, .ty _, ty_of r c, kit_ty (kitB_sub t k), hd _ _ e2 (.bl _)⟩) (T.all_bind.mp h))⟩
/-- isinstance(x, (T1, T2)) -/
def isD2 (cs : List Str) (k1 k2 : Ty5) (d : D) : T D := match d with
  | .ins c _ => cond (cs.contains c) (.ret (.bl false)) .fail
  | d => match tyD d with
    | some t => .ret (.bl (Ty5.sub t k1 || Ty5.sub t k2))
    | none => .fail
theorem kit2 {K : PySem.W.Frag} {t : Value} {a b : String} {x y : Bool} (h1 : PySem.W.kitOne K t (.type a) = some x) (h2 : PySem.W.kitOne K t (.type b) = some y) : PySem.W.kitAny K t [.type a, .type b] = some (x || y) := by
  cases x with
  | true => exact kitAny_cons h1 (fun z => nomatch z) fun _ => rfl
  | false =>
    refine kitAny_cons h1 (fun _ => ?_) fun z => nomatch z
    cases y with
    | true => exact kitAny_cons h2 (fun z => nomatch z) fun _ => rfl
    | false => exact kitAny_cons h2 (fun _ => rfl) fun z => nomatch z
theorem s_isinst2 (cs : List Str) {k1 k2 : Ty5} {t1 t2 : Str} {p p2 p3 p4 : Pos} {kk : Nat} (kn : KnownC X.K cs) (hm : X.mg "isinstance" = none) (hm1 : X.mg t1 = none) (hm2 : X.mg t2 = none) (hb1 : bootBuiltins t1 = some (.type k1.nm)) (hb2 : bootBuiltins t2 = some (.type k2.nm)) (ha : Snd X e m) (hg : Gl X "isinstance" := by rfl) (hg1 : Gl X t1 := by rfl) (hg2 : Gl X t2 := by rfl) (hbi : bootBuiltins "isinstance" = some (.builtin "isinstance") := by decide +kernel)
    (hn1 : t1 ≠ "__name__" := by decide) (hd1 : (t1 == ("__debug__" : Str)) = false := by decide) (hn2 : t2 ≠ "__name__" := by decide) (hd2 : (t2 == ("__debug__" : Str)) = false := by decide)
    (he : starEach [e, .Tuple [.Name t1 p, .Name t2 p3] kk p4] X.env = (false, eval e X.env) :: starEach [.Tuple [.Name t1 p, .Name t2 p3] kk p4] X.env := by rfl) (he2 : starEach [.Tuple [.Name t1 p, .Name t2 p3] kk p4] X.env = (false, eval (.Tuple [.Name t1 p, .Name t2 p3] kk p4) X.env) :: starEach [] X.env := by rfl)
    (he3 : starEach [.Name t1 p, .Name t2 p3] X.env = (false, eval (.Name t1 p) X.env) :: starEach [.Name t2 p3] X.env := by rfl) (he4 : starEach [.Name t2 p3] X.env = (false, eval (.Name t2 p3) X.env) :: starEach [] X.env := by rfl) (hpl : (backTo pos (starEach [.Tuple [.Name t1 p, .Name t2 p3] kk p4] X.env)).any (·.1) = false := by rfl) :
    Snd X (.Call (.Name "isinstance" p2) [e, .Tuple [.Name t1 p, .Name t2 p3] kk p4] [] pos) (eUn (isD2 cs k1 k2) m) := fun {π N0 H0 N H σ ρ Q} I h =>
  ⟨_, pe_callB ca_wp hg hm hbi (pa_cons pe_wp (pa_cons (pe_tup (pa_cons (pe_bltn (v := .ty k1.nm) hg1 hm1 hb1 rfl hn1 hd1) (pa_cons (pe_bltn (v := .ty k2.nm) hg2 hm2 hb2 rfl hn2 hd2) pa_nil he4) he3)) pa_nil he2) he) (by decide) (by decide) he hpl, ha I (T.all_mono (fun d hd => by
    intro v H2 e2 r
    refine ⟨show 2 ≤ sizeLine by decide, fun T hT => ?_⟩
    have e3 := e2.trans (Ex.new (o := .tup [.ty k1.nm, .ty k2.nm]) e2.pot hT)
    have r3 := r.mono (Ex.new (o := .tup [.ty k1.nm, .ty k2.nm]) e2.pot hT).kp.hide
    unfold isD2 at hd
    split at hd
    · obtain ⟨hc, hd⟩ := cond_all hd
      obtain ⟨C, at_, ct, tx⟩ := isi_ins kn hc r3
      exact ⟨_, call_isiT, v, T, _, .ref C, [.type k1.nm, .type k2.nm], false, rfl, upd_same, .cons (.ty _) (.cons (.ty _) .nil), tx, kit2 (ct.no k1) (ct.no k2), hd _ _ e3 (.bl _)⟩
    · split at hd
      · rename_i t c
        exact ⟨_, call_isiT, v, T, _, .type t.nm, [.type k1.nm, .type k2.nm], _, rfl, upd_same, .cons (.ty _) (.cons (.ty _) .nil), ty_of r3 c, kit2 (kit_ty (kitB_sub t k1)) (kit_ty (kitB_sub t k2)), hd _ _ e3 (.bl _)⟩
      · exact False.elim hd) (T.all_bind.mp h))⟩
end
theorem EnvOk.consUn {K : PySem.W.Frag} {P : Program} {w : World} {π : Addr} {N0 N : Addr → Bool} {H0 H : Hp} {σ : L2.St} {ρ : Rho} (I : EnvOk K P w π N0 H0 N H σ ρ) (x : Option V) : EnvOk K P w π N0 H0 N H (x :: σ) (.un :: ρ) where
  hn := I.hn
  ex := I.ex
  sub := I.sub
  own0 := I.own0
  len := by rw [List.length_cons, List.length_cons, I.len]
  val := fun i d h => match i, h with
    | 0, h => by cases h
    | i + 1, h => I.val i d h
  own := fun i y h ho => match i, h with
    | 0, h => by cases h; cases ho
    | i + 1, h => I.own i y h ho
  inj := fun i j e f l h1 h2 o1 o2 s1 s2 => match i, j, h1, h2, s1, s2 with
    | 0, _, h1, _, _, _ => by cases h1; cases o1
    | _ + 1, 0, _, h2, _, _ => by cases h2; cases o2
    | i + 1, j + 1, h1, h2, s1, s2 => congrArg Nat.succ (I.inj i j e f l h1 h2 o1 o2 s1 s2)
end Pd
namespace Pd
open PySem L2 PySem.Spec PyProof.Rows
section
variable (P : Program) (w : World) (K : PySem.W.Frag) (mg : Str → Option Value) (base : Heap)
/-- the def of that name -/
def Pm (x : Str) (k n : Nat) (ps : List Str) (F : List D → T D) : Prop := ∃ (a : Addr) (fd : FuncData), mg x = some (.ref a) ∧ PySem.W.keepIn K (.ref a) = true ∧ FnOk P w K mg base CX0 k a fd ps (spD K P w n F) ∧ Binds K fd ps []
/-- .. where no repr is under way -/
def PmG (x : Str) (k n : Nat) (ps : List Str) (F : List D → T D) : Prop := ∃ (a : Addr) (fd : FuncData), mg x = some (.ref a) ∧ PySem.W.keepIn K (.ref a) = true ∧ FnG P w K mg base CX0 k a fd ps (spD K P w n F) ∧ Binds K fd ps []
/-- the def, by keywords -/
def PmK (x : Str) (k n : Nat) (ps ks : List Str) (perm : List Nat) (F : List D → T D) : Prop := ∃ (a : Addr) (fd : FuncData), mg x = some (.ref a) ∧ PySem.W.keepIn K (.ref a) = true ∧ FnOk P w K mg base CX0 k a fd ps (spD K P w n F) ∧ KBind K fd ps ks perm
/-- the method -/
def PmM (c m : Str) (k n : Nat) (ps : List Str) (F : List D → T D) : Prop := ∃ (C a : Addr) (fd : FuncData), ClsAt K c C ∧ Cls K C ∧ Meth K C m a ∧ FnOk P w K mg base CX0 k a fd ps (spD K P w (n + 1) F) ∧ Binds K fd ps []
/-- the property -/
def PmP (c f : Str) (k : Nat) (F : List D → T D) : Prop := ∃ (C p g : Addr) (fd : FuncData) (ps : List Str), ClsAt K c C ∧ Cls K C ∧ PropOf K C f p g ∧ FnOk P w K mg base CX0 k g fd ps (spD K P w 1 F) ∧ Binds K fd ps []
/-- the class is made by n values, dds behind them -/
def PmC (c : Str) (k n : Nat) (dds : List D) (F : List D → T (List (Str × D))) : Prop := ∃ (C a : Addr) (fd : FuncData) (ps : List Str) (dvs : List V) (dv : List Value), Mk K C a ∧ ClsAt K c C ∧ mg c = some (.ref C) ∧ FnOk P w K mg base CX0 k a fd ps (spI K P w c (n + dvs.length) F) ∧ Binds K fd ps dv ∧ Vals dvs dv ∧ ∀ π H, RvL K P w π H dvs dds
def PmCK (c : Str) (k n : Nat) (ks : List Str) (perm : List Nat) (F : List D → T (List (Str × D))) : Prop := ∃ (C a : Addr) (fd : FuncData) (ps : List Str), Mk K C a ∧ ClsAt K c C ∧ mg c = some (.ref C) ∧ FnOk P w K mg base CX0 k a fd ps (spI K P w c n F) ∧ KBind1 K fd ps ks perm
/-- the text of an instance -/
def PmT (c nm : Str) (k : Nat) (F : List D → T D) : Prop := ∃ (C a : Addr) (fd : FuncData) (ps : List Str), ClsAt K c C ∧ OwnTxt K C nm a ∧ FnOk P w K mg base CX0 k a fd ps (spD K P w 1 F) ∧ Binds K fd ps []
end
section
variable {X : Cx} {e : Expr} {es : List Expr} {pos : Pos} {m : Rho → T D} {ms : Rho → T (List D)} {k n : Nat} {ps ks : List Str} {perm : List Nat} {F : List D → T D}
theorem s_callP {x : Str} {p : Pos} (h : Pm X.prog X.w X.K X.mg X.base x k n ps F) (hr : Room k X.A) (ha : SndA X (e :: es) ms) (hg : Gl X x := by rfl) (hdb : (x == ("__debug__" : Str)) = false := by decide) (he : starEach (e :: es) X.env = (false, eval e X.env) :: starEach es X.env := by rfl) (hpl : (backTo pos (starEach es X.env)).any (·.1) = false := by rfl) :
    Snd X (.Call (.Name x p) (e :: es) [] pos) (eCall n F ms) := let ⟨_, _, hm, hk, G, B⟩ := h; s_call G hr hm hk B ha hg hdb he hpl
theorem s_callPG {x : Str} {p : Pos} (h : PmG X.prog X.w X.K X.mg X.base x k n ps F) (hr : Room k X.A) (hgd : X.A.guards = some []) (ha : SndA X (e :: es) ms) (hg : Gl X x := by rfl) (hdb : (x == ("__debug__" : Str)) = false := by decide) (he : starEach (e :: es) X.env = (false, eval e X.env) :: starEach es X.env := by rfl) (hpl : (backTo pos (starEach es X.env)).any (·.1) = false := by rfl) :
    Snd X (.Call (.Name x p) (e :: es) [] pos) (eCall n F ms) := let ⟨_, _, hm, hk, G, B⟩ := h; s_callG G hr hgd hm hk B ha hg hdb he hpl
theorem s_callPK {x : Str} {p : Pos} {kws : List Keyword} (h : PmK X.prog X.w X.K X.mg X.base x k n ps ks perm F) (hr : Room k X.A) (hp : perm.length = n) (hkn : ks.length = n) (ha : SndK X kws ms) (hg : Gl X x := by rfl) (hall : (backToKw pos (keywordEach kws X.env)).all (·.1.isSome) = true := by rfl) (hks : (backToKw pos (keywordEach kws X.env)).filterMap (·.1) = ks := by rfl)
    (hdb : (x == ("__debug__" : Str)) = false := by decide) (hpl : ((backTo pos (starEach [] X.env)).any (·.1) || (backToKw pos (keywordEach kws X.env)).any (·.1.isNone)) = false := by rfl) : Snd X (.Call (.Name x p) [] kws pos) (eCallK n perm F ms) := let ⟨_, _, hm, hk, G, B⟩ := h; s_callK G hr hm hk B hp hkn ha hg hall hks hdb hpl
theorem s_methP0 {c me : Str} {o : Expr} {mo : Rho → T D} {apos : Pos} {pl : Sem Bool} (h : PmM X.prog X.w X.K X.mg X.base c me k 0 ps F) (hr : Room k X.A) (ho : Snd X o mo)
    (ht : eval (.Call (.Attribute o me apos) [] [] pos) X.env = (do
      let ov ← eval o X.env
      standAt apos.atName
      let (f, first) ← holding [ov] (getMethod ov me pl)
      callWith pos f first (backTo pos (starEach [] X.env)) (backToKw pos (keywordEach [] X.env))) := by rfl) :
    Snd X (.Call (.Attribute o me apos) [] [] pos) (eMeth c me 0 F mo aNil) := let ⟨_, _, _, at_, cl, hm, G, B⟩ := h; s_meth0 at_ cl hm G hr B ho ht
theorem s_propP {c f : Str} (h : PmP X.prog X.w X.K X.mg X.base c f k F) (hr : Room (k + 1) X.A) (ho : Snd X e m) (hab : attributeBase e f X.env (eval e X.env) = eval e X.env := by rfl) : Snd X (.Attribute e f pos) (eProp c F m) :=
  let ⟨_, _, _, _, _, at_, cl, hp, G, B⟩ := h; s_prop at_ cl hp G hr B ho hab
theorem s_makeP {c : Str} {dds : List D} {F : List D → T (List (Str × D))} {p : Pos} (h : PmC X.prog X.w X.K X.mg X.base c k n dds F) (hr : Room (k + 1) X.A) (ha : SndA X (e :: es) ms) (hg : Gl X c := by rfl) (hdb : (c == ("__debug__" : Str)) = false := by decide) (he : starEach (e :: es) X.env = (false, eval e X.env) :: starEach es X.env := by rfl) (hpl : (backTo pos (starEach es X.env)).any (·.1) = false := by rfl) :
    Snd X (.Call (.Name c p) (e :: es) [] pos) (eMake c n dds F ms) := let ⟨_, _, _, _, _, _, M, at_, hm, G, B, hd, hdd⟩ := h; s_make M G hr hm at_ B hd hdd ha hg hdb he hpl
theorem s_makePK {c : Str} {F : List D → T (List (Str × D))} {p : Pos} {kws : List Keyword} (h : PmCK X.prog X.w X.K X.mg X.base c k n ks perm F) (hr : Room (k + 1) X.A) (hp : perm.length = n) (hkn : ks.length = n) (ha : SndK X kws ms) (hg : Gl X c := by rfl) (hall : (backToKw pos (keywordEach kws X.env)).all (·.1.isSome) = true := by rfl) (hks : (backToKw pos (keywordEach kws X.env)).filterMap (·.1) = ks := by rfl)
    (hdb : (c == ("__debug__" : Str)) = false := by decide) (hpl : ((backTo pos (starEach [] X.env)).any (·.1) || (backToKw pos (keywordEach kws X.env)).any (·.1.isNone)) = false := by rfl) : Snd X (.Call (.Name c p) [] kws pos) (eMakeK c n perm F ms) := let ⟨_, _, _, _, M, at_, hm, G, B⟩ := h; s_makeK M G hr hm at_ B hp hkn ha hg hall hks hdb hpl
end
section
variable (P : Program) (w : World) (K : PySem.W.Frag) (mg : Str → Option Value) (base : Heap)
def PmE (c : Str) (op : CmpOp) (k : Nat) (F : List D → T D) : Prop := ∃ (C a : Addr) (fd : FuncData) (ps : List Str), ClsAt K c C ∧ CmpOwn K C op a ∧ FnOk P w K mg base CX0 k a fd ps (spD K P w 2 F) ∧ Binds K fd ps []
end
section
variable {X : Cx} {e : Expr} {pos : Pos} {m : Rho → T D} {j k : Nat} {F R : List D → T D} {g : D → D → T D} {c : Str}
theorem os_cmpP {op : CmpOp} (h0 : OpSnd X (compareOp op) g) (hop : op ≠ .Is ∧ op ≠ .IsNot ∧ op ≠ .In ∧ op ≠ .NotIn) (h : PmE X.prog X.w X.K X.mg X.base c op k F) (hr : Room k X.A) : OpSnd X (compareOp op) (cmpAny c g F) := let ⟨_, _, _, _, at_, O, G, B⟩ := h; os_cmpAny h0 hop at_ O G hr B
end
/-- all names unknown -/
theorem env_un {K : PySem.W.Frag} {P : Program} {w : World} {π : Addr} {N : Addr → Bool} {H : Hp} {σ : L2.St} {n : Nat} (hn : HN π N H) (hl : σ.length = n) : EnvOk K P w π N H N H σ (List.replicate n .un) := by
  have un : ∀ (i : Nat) (e : Ent), (List.replicate n Ent.un)[i]? = some e → e = .un := fun i e h => by
    rw [List.getElem?_replicate] at h
    split at h
    · cases h; rfl
    · cases h
  refine ⟨hn, .refl, fun _ h => h, fun _ h => .inl h, by rw [hl, List.length_replicate], fun i d h => ?_, fun i x h xo => ?_, fun i j e f l h1 h2 o1 o2 => ?_⟩
  · cases un i _ h
  · cases un i _ h; cases xo
  · cases un i _ h1; cases o1
end Pd
namespace Pd
open PySem L2 PySem.Spec PyProof.Rows
/-- room for calls while that exception, or none, is handled -/
structure RoomV (h : Option Value) (n : Nat) (A : Around) : Prop where
  hd : A.handled = h
  dp : A.depth + 3 * n + 5 < recursionLimit
  un : A.units + 16 * n + 200 < cLine
theorem RoomV.mono {h : Option Value} {j n : Nat} {A : Around} (r : RoomV h n A) (l : j ≤ n) : RoomV h j A := ⟨r.hd, by have := r.dp; omega, by have := r.un; omega⟩
theorem RoomV.in1 {h : Option Value} {n : Nat} {A : Around} (r : RoomV h (n + 1) A) : RoomV h n A.in1 := ⟨r.hd, by have := r.dp; show A.depth + 3 * n + 5 < _; omega, by have := r.un; show A.units + 1 + 16 * n + 200 < _; omega⟩
theorem roomV {n : Nat} {A : Around} (r : Room n A) : RoomV A.handled n A := ⟨rfl, r.dp, r.un⟩
/-- a def that keeps its promise while that exception, or none, is handled -/
structure FnV (h : Option Value) (P : Program) (w : World) (K : PySem.W.Frag) (mg : Str → Option Value) (base : Heap) (k : Nat) (f : Addr) (fd : FuncData) (ps : List Str) (sp : Sp) : Prop where
  len : ∀ zs Hx Qx Ex, sp zs Hx Qx Ex → zs.length = ps.length
  run : ∀ (A : Around) (out : List Env) (s : Shared) (H : Hp) (as : Args) (us : List Value) (vs : List V) (Q : VK) (E : XK), RoomV h k A → Env0 P w K mg base A out s H → BindsTo s fd as (ps.zip us) → Vals vs us → sp vs H Q E → codeAny (model P w) A (.call (.ref f) as) (CR CX0 out P w H s Q E) s
theorem fnV_of {P : Program} {w : World} {K : PySem.W.Frag} {mg : Str → Option Value} {base : Heap} {k : Nat} {f : Addr} {fd : FuncData} {ps : List Str} {sp : Sp} (G : FnOk P w K mg base CX0 k f fd ps sp) {h : Option Value} (hh : h = none) : FnV h P w K mg base k f fd ps sp :=
  ⟨G.len, fun A out s H as us vs Q E r => G.run A out s H as us vs Q E ⟨r.hd.trans hh, r.dp, r.un⟩⟩
/-- the state goes on, the tracked heap as data's -/
def Goes (X : Cx) (σ : L2.St) (π : Addr) (H0 : Hp) (pins : List (Addr × Obj)) (s : Shared) : Prop := ∃ H, Inv X pins σ H s ∧ Ex π H0 H
/-- the text of v, asked under way; as: the places that stand in it -/
def RpG (X : Cx) (σ : L2.St) (π : Addr) (H0 : Hp) (n : Nat) (as : List Addr) (v : Value) (t : Str) : Prop :=
  ∀ (b0 : Nat) (A : Around) (g : List Code) (pins : List (Addr × Obj)) (s : Shared) (E : Value → Shared → Prop) (Q : Str → Shared → Prop), b0 + t.length ≤ sizeLine → A.guards = some g → (∀ b ∈ as, Clear g b) → RoomV X.A.handled n A → A.frames = some X.stack →
    Goes X σ π H0 pins s → (∀ s', Goes X σ π H0 pins s' → Q t s') → wpAny (model X.prog X.w) A (pyReprUnder b0 v) Q E s
theorem RpG.mono {X : Cx} {σ : L2.St} {π : Addr} {H0 : Hp} {m n : Nat} {as : List Addr} {v : Value} {t : Str} (h : RpG X σ π H0 m as v t) (l : m ≤ n) : RpG X σ π H0 n as v t :=
  fun b0 A g pins s E Q hb hg hc hr => h b0 A g pins s E Q hb hg hc (hr.mono l)
theorem RpG.more {X : Cx} {σ : L2.St} {π : Addr} {H0 : Hp} {n : Nat} {as bs : List Addr} {v : Value} {t : Str} (h : RpG X σ π H0 n as v t) (l : ∀ b ∈ as, b ∈ bs) : RpG X σ π H0 n bs v t :=
  fun b0 A g pins s E Q hb hg hc => h b0 A g pins s E Q hb hg fun b z => hc b (l b z)
theorem room_under {h : Option Value} {n : Nat} {A : Around} {c : Code} (r : RoomV h (n + 1) A) (hw : c.weight ≤ 3) (hu : c.cUnits ≤ 16) : RoomV h n (A.under c) :=
  ⟨r.hd, by have := r.dp; show A.depth + c.weight + 3 * n + 5 < _; omega, by have := r.un; show A.units + c.cUnits + 16 * n + 200 < _; omega⟩
section
variable {X : Cx} {σ : L2.St} {π : Addr} {H0 : Hp} {n : Nat}
/-- what is no object -/
theorem RpG.leaf {v : Value} {t : Str} (h : ReprIs X.prog X.w v t) : RpG X σ π H0 n [] v t := fun b0 A g pins s E Q hb hg hc hr hf ⟨H, I, e⟩ hQ =>
  h b0 hb A E s Q fun tk => hQ _ ⟨H, I.tok tk, e⟩
/-- an instance with a repr of its own -/
theorem RpG.own {k : Nat} {C f a dx : Addr} {fd : FuncData} {ps : List Str} {F : List D → T D} {fv : List (Str × V)} {N : Addr → Bool} {d : D} {t : Str} (O : OwnTxt X.K C "__repr__" f) (G : FnV X.A.handled X.prog X.w X.K X.mg X.base k f fd ps (spD X.K X.prog X.w 1 F)) (hb : Binds X.K fd ps [])
    (hn : HN π N H0) (ha : H0 a = some (.ins C dx fv)) (hp : a ≠ π) (r : Rv X.K X.prog X.w π (Hide N H0) (.ref a) d) (hF : F [d] = .ret (.str t)) : RpG X σ π H0 k [] (.ref a) t := fun b0 A g pins s E Q hz hg hc hr hf ⟨H, I, e⟩ hQ => by
  have ha' := e.kp a _ hp ha
  obtain ⟨mA, M, _, _, _, _⟩ := ins_get I.hok ha'
  obtain ⟨od, J, _⟩ := M.look
  have hA := I.kIn
  refine wpAny_pyReprUnder_ref (by omega) ?_
  unfold pyReprObjUnder pyReprObjBy
  refine wpAny_bind (wpAny_cRoomFor (by have := hr.un; omega) ?_)
  refine wpAny_bind (wpAny_bind (J.type.here ((PySem.W.looks_findIn hA O.at_).here ?_)))
  show wpAny _ _ (if (some (Value.ref f)).isNone = true then _ else _) _ _ _
  rw [if_neg (by simp)]
  have r1 : Rv X.K X.prog X.w π (Hide N H) (.ref a) d := r.mono e.kp.hide
  have call1 : wpAny (model X.prog X.w) A (call (.ref f) [.ref a]) (fun v s' => (∃ u, v = .str t u) ∧ Goes X σ π H0 pins s') E s := by
    refine wpAny_call (codeAny_mono (G.run A X.stack s H ⟨[.ref a], []⟩ [.ref a] [.ref a] (fun v H2 => v = .str t ∧ Ex π H0 H2) E0 hr ?_ (hb s [.ref a] hA (G.len _ H (fun _ _ => True) E0 ⟨π, N, [d], hn.ext e, .cons r1 .nil, rfl, by rw [hF]; exact fun _ _ _ _ => trivial⟩)) (.cons rfl .nil)
      ⟨π, N, [d], hn.ext e, .cons r1 .nil, rfl, by rw [hF]; exact fun v H' e2 rv => ⟨by cases rv; rfl, e.trans e2⟩⟩) fun r s' hq => ?_)
    · exact { I.env0 with frames := hf }
    · cases r with
      | error er => exact hq.elim
      | ok fl =>
        cases fl with
        | ret u =>
          obtain ⟨v, H', I3, rv, ev, q⟩ := I.after hq
          subst ev
          obtain ⟨tk, rfl⟩ := rv
          exact ⟨⟨tk, rfl⟩, H', I3, q⟩
        | next => exact False.elim hq
        | brk => exact False.elim hq
        | cont => exact False.elim hq
  have fin : wpAny (model X.prog X.w) A (call (.ref f) [.ref a] >>= fun v => pure (some v)) (fun r s' => ∃ u, r = some (Value.str t u) ∧ Goes X σ π H0 pins s') E s :=
    wpAny_bind (wpAny_mono call1 (fun v s' ⟨⟨u, hv⟩, q⟩ => wpAny_pure ⟨u, by rw [hv], q⟩) fun _ _ z => z)
  have by1 : wpAny (model X.prog X.w) A (callSpecialIfBoundBy? (fun g first => match reprUnder? g, first with | some twin, [self] => call twin [self, rawInt b0] | _, _ => call g (first ++ [])) (.ref a) (Str.ofString "__repr__"))
      (fun r s' => ∃ u, r = some (Value.str t u) ∧ Goes X σ π H0 pins s') E s := by
    simp only [callSpecialIfBoundBy?, bindSpecialIfBound?]
    refine wpAny_holding (wpAny_bind (wpAny_bind (wpAny_bind (J.type.here ((PySem.W.looks_findIn hA O.at_).here ?_)))))
    refine wpAny_bind (wpAny_askSetting (wpAny_ite ?_))
    split
    · exact wpAny_bind ((PySem.W.bind_fn hA _ (beq_iff_eq.mp O.fn)).here (wpAny_pure (by exact fin)))
    · exact wpAny_tryCatch (wpAny_bind ((PySem.W.bind_fn hA _ (beq_iff_eq.mp O.fn)).here (wpAny_pure (by exact fin))))
  refine wpAny_bind (wpAny_mono by1 (fun r s' ⟨u, hv, q⟩ => ?_) fun _ _ z => z)
  subst hv
  exact wpAny_bind (wpAny_isInstance (T := "str") (b := true) rfl isSubtype_str_str (wpAny_pure ⟨t, u, rfl, hQ _ q⟩))
end
end Pd
namespace Pd
open PySem L2 PySem.Spec PyProof.Rows
open PySem.Builtin PySem.Builtin.List
/-- the list of texts under way -/
def partsObj (acc : Array Value) (c : Nat) : Obj := { cls := .type "list", dict := none, data := .seq acc c, slots := #[] }
theorem len_parts {acc : Array Value} {done : List (Str × Tok)} {ts : List Str} {i : Nat} (ha : acc.toList = strValues done) (hd : done.map (·.1) = ts.take i) : acc.size ≤ ts.length := by
  have e1 : acc.size = done.length := by rw [← Array.length_toList, ha]; simp [strValues]
  have e2 : done.length = (ts.take i).length := by rw [← hd, List.length_map]
  rw [e1, e2, List.length_take]
  omega
theorem le_piled {ts : List Str} {t : Str} (h : t ∈ ts) : t.length + 2 ≤ piled ts := by
  induction ts with
  | nil => cases h
  | cons x xs ih =>
    rw [piled_cons]
    rcases List.mem_cons.mp h with e | e
    · subst e; omega
    · have := ih e; omega
theorem w_list (args : Args) : (Code.builtin "list.__repr__.loop" args).weight ≤ 3 := by
  have c : (Code.builtin "list.__repr__.loop" args).isCreation = false := rfl
  have d : (Code.builtin "list.__repr__.loop" args).isCaller = false := rfl
  have f : (Code.builtin "list.__repr__.loop" args).frames = 0 := by first | rfl | simp [Code.frames, Code.isFrame]
  unfold Code.weight
  rw [c, d, f, isGuard_list_loop, if_neg (by decide), if_pos rfl, if_neg (by decide)]
  decide
theorem u_list (args : Args) : (Code.builtin "list.__repr__.loop" args).cUnits ≤ 16 := by
  have f : (Code.builtin "list.__repr__.loop" args).frames = 0 := by first | rfl | simp [Code.frames, Code.isFrame]
  show 1 + 3 * _ ≤ 16
  rw [f]
  decide
section
variable {X : Cx} {σ : L2.St} {π : Addr} {H0 : Hp} {n : Nat} {pins : List (Addr × Obj)}
/-- the parts get one more -/
theorem Goes.part {P : Addr} {o1 : Obj} {s : Shared} {f : Array Value → Array Value} {xs : Array Value} {c : Nat} (h : Goes X σ π H0 ((P, o1) :: pins) s) (ho : o1.data = .seq xs c) (hP1 : X.s_0.heap.objs.size ≤ P) (hP2 : ∀ x c, X.env.cells.lookup x = some c → c ≠ P) (hP3 : ∀ p ∈ X.pn ++ pins, p.1 ≠ P) (t' : Nat) :
    ∃ o2, (s.heap.update P (Obj.mapSeq f)).get? P = some o2 ∧ o2 = Obj.mapSeq f o1 ∧ Goes X σ π H0 ((P, o2) :: pins) { s with heap := s.heap.update P (Obj.mapSeq f), toks := t' } := by
  obtain ⟨H, I, e⟩ := h
  have q := I.pin (P, o1) (List.mem_append_right _ List.mem_cons_self)
  obtain ⟨q1, q2, q3, q4, q5⟩ := q
  have I1 := (ClX.unpin I).turned (t' := t') (it := P) (h' := s.heap.update P (Obj.mapSeq f)) (fun b o hb hs => (Heap.get?_update_other _ _ (fun z => hb z.symm)).trans hs) q2 q3 (.inr hP1) hP2 hP3
  have nf : (Obj.mapSeq f o1).isFreed = false := by
    unfold Obj.mapSeq
    cases o1
    cases ho
    rfl
  have e2 : (s.heap.update P (Obj.mapSeq f)).get? P = some (Obj.mapSeq f o1) := Heap.get?_update_self _ q1 nf
  have d2 : ∃ m, (Obj.mapSeq f o1).data = .seq (f xs) m := by
    cases o1
    cases ho
    exact ⟨_, rfl⟩
  refine ⟨_, e2, rfl, H, I1.pins_of fun p hp => ?_, e⟩
  rcases List.mem_cons.mp hp with z | z
  · subst z
    refine ⟨e2, q2, q3, q4, fun v hv => ?_⟩
    obtain ⟨m, d⟩ := d2
    rw [show (P, Obj.mapSeq f o1).2 = Obj.mapSeq f o1 from rfl, d] at hv
    cases hv
  · exact I1.pin p (List.mem_append_right _ z)
/-- the loop over a list's items -/
theorem list_loopG {a P : Addr} {xs : List V} {ts : List Str} {as : List Addr} {b0 : Nat} {A : Around} {g : List Code} {R : Result → Shared → Prop} (ha : H0 a = some (.lst xs)) (hap : a ≠ π) (hna : a ∉ as) (hg : A.guards = some g) (hcl : ∀ b ∈ as, Clear g b) (hr : RoomV X.A.handled (n + 1) A) (hf : A.frames = some X.stack)
    (hlen : ts.length = xs.length) (hT : ∀ (i : Nat) (x : V), xs[i]? = some x → ∃ t, ts[i]? = some t ∧ ∀ v, RelV x v → RpG X σ π H0 n as v t) (hsz : b0 + (listText ts).length ≤ sizeLine) (hP1 : X.s_0.heap.objs.size ≤ P) (hP2 : ∀ x c, X.env.cells.lookup x = some c → c ≠ P) (hP3 : ∀ p ∈ X.pn ++ pins, p.1 ≠ P)
    (hR : ∀ s' u, Goes X σ π H0 pins s' → R (.ok (.ret (.str (listText ts) u))) s') :
    ∀ (k i : Nat) (s : Shared) (acc : Array Value) (c : Nat) (done : List (Str × Tok)), xs.length - i = k → i ≤ xs.length → Goes X σ π H0 ((P, partsObj acc c) :: pins) s → acc.toList = strValues done → done.map (·.1) = ts.take i →
      codeAny (model X.prog X.w) A (.builtin "list.__repr__.loop" ⟨[.ref a, rawInt i, .ref P, rawInt ((b0 + piled (ts.take i) : Nat) : Int)], []⟩) R s := by
  have hp := piled_le_listText ts
  have hall : ∀ t ∈ ts, t.length + 2 ≤ piled ts := fun t ht => by
    exact le_piled ht
  intro k
  induction k with
  | zero =>
    intro i s acc c done hk hi ⟨H, I, e⟩ hacc hdone
    have hin : i = xs.length := by omega
    obtain ⟨its, rv, ⟨o, m, ho, _, _, hd⟩, hl⟩ := I.list (SqL.of (e.kp a _ hap ha))
    have hP := ClX.pin_at I
    refine codeAny_builtin F.entry_list_repr_loop ?_
    show wpAny _ _ («list.__repr__.loop» ⟨[.ref a, .int i 0, .ref P, .int ((b0 + piled (ts.take i) : Nat) : Int) 0], []⟩) _ _ s
    rw [repr_loop_tree]
    refine wpAny_bind (wpAny_listItems ho hd ?_)
    have h0 : its.toArray[(i : Int).toNat]? = none := by
      rw [Int.toNat_natCast, Array.getElem?_eq_none]
      rw [List.size_toArray, ← rv.length]
      omega
    simp only [h0]
    unfold reprEnd
    refine wpAny_bind (wpAny_listItems hP rfl ?_)
    rw [hacc, repr_fold, hdone, hin, ← hlen, List.take_length]
    refine wpAny_bind (wpAny_pure ?_)
    exact wpAny_bind (wpAny_mkStr (wpAny_pure (hR _ _ ⟨H, (ClX.unpin I).tok _, e⟩)) (by show (listText ts).length ≤ sizeLine; omega))
  | succ k ih =>
    intro i s acc c done hk hi G hacc hdone
    obtain ⟨H, I, e⟩ := id G
    have hlt : i < xs.length := by omega
    obtain ⟨t, ht, hrep⟩ := hT i xs[i] (List.getElem?_eq_getElem hlt)
    obtain ⟨its, rv, ⟨o, m, ho, _, _, hd⟩, hl⟩ := I.list (SqL.of (e.kp a _ hap ha))
    have hits : i < its.length := by rw [← rv.length]; exact hlt
    obtain ⟨x1, hx1, rx⟩ := rv.get (List.getElem?_eq_getElem hlt)
    obtain rfl : its[i] = x1 := Option.some.inj ((List.getElem?_eq_getElem hits).symm.trans hx1)
    have hp1 := piled_take_succ ht
    have hp2 := piled_take_le ts (i + 1)
    have ht2 := hall t (List.mem_of_getElem? ht)
    have hsa := len_parts hacc hdone
    refine codeAny_builtin F.entry_list_repr_loop ?_
    show wpAny _ _ («list.__repr__.loop» ⟨[.ref a, .int i 0, .ref P, .int ((b0 + piled (ts.take i) : Nat) : Int) 0], []⟩) _ _ s
    rw [repr_loop_tree]
    refine wpAny_bind (wpAny_listItems ho hd ?_)
    have h0 : its.toArray[(i : Int).toNat]? = some its[i] := by
      rw [Int.toNat_natCast, List.getElem?_toArray, List.getElem?_eq_getElem hits]
    simp only [h0]
    rw [Int.toNat_natCast]
    have gd := guards_under_guard (A := A) (isGuard_list_loop ⟨[.ref a, .int i 0, .ref P, .int ((b0 + piled (ts.take i) : Nat) : Int) 0], []⟩) hg
    refine wpAny_bind (wpAny_holding (hrep _ rx (b0 + piled (ts.take i) + 1) _ _ ((P, partsObj acc c) :: pins) s _ _ (by omega) gd (fun b hb => (hcl b hb).cons (a := a) fun z => hna (z ▸ hb)) (room_under hr (w_list _) (u_list _)) hf G fun s' G' => ?_))
    refine wpAny_bind (wpAny_mkStr ?_ (by omega))
    refine wpAny_bind ?_
    obtain ⟨H', I', e'⟩ := id G'
    refine wpAny_updateSeq (ClX.pin_at I') rfl (wpAny_pure ⟨F.quiet_list_repr_loop _, ?_⟩) (by omega)
    obtain ⟨o2, g2, eo, G2⟩ := G'.part (f := (·.push (.str t s'.toks))) rfl hP1 hP2 hP3 (s'.toks + 1)
    subst eo
    have e1 : ((i : Int) + 1) = ((i + 1 : Nat) : Int) := by omega
    have e2 : b0 + piled (ts.take i) + (t.length + 2) = b0 + piled (ts.take (i + 1)) := by omega
    rw [e1, e2]
    exact ih (i + 1) _ (acc.push (.str t s'.toks)) _ (done ++ [(t, s'.toks)]) (by omega) hlt G2 (by simp [hacc, strValues]) (by simp [List.take_add_one, ht, hdone])
end
end Pd
namespace Pd
open PySem L2 PySem.Spec PyProof.Rows
open PySem.Builtin PySem.Builtin.List
/-- the texts of the items -/
def Txs (X : Cx) (σ : L2.St) (π : Addr) (H0 : Hp) (n : Nat) (as : List Addr) (xs : List V) (ts : List Str) : Prop :=
  ts.length = xs.length ∧ ∀ (i : Nat) (x : V), xs[i]? = some x → ∃ t, ts[i]? = some t ∧ ∀ v, RelV x v → RpG X σ π H0 n as v t
section
variable {X : Cx} {σ : L2.St} {π : Addr} {H0 : Hp} {n : Nat} {pins : List (Addr × Obj)}
/-- how a text's run ends -/
abbrev FinR (X : Cx) (A : Around) (R : Result → Shared → Prop) : Fin → Shared → Prop := fun fin s' => match fin with
  | .done f => R (.ok f) s'
  | .again c' => c'.quiet = true ∧ codeAny (model X.prog X.w) A c' R s'
theorem list_atG {a : Addr} {xs : List V} {ts : List Str} {as : List Addr} {b0 : Nat} {A : Around} {g : List Code} {R : Result → Shared → Prop} {s : Shared} (ha : H0 a = some (.lst xs)) (hap : a ≠ π) (hna : a ∉ as) (hx : xs ≠ []) (hg : A.guards = some g) (hcl : ∀ b ∈ a :: as, Clear g b) (hr : RoomV X.A.handled (n + 1) A) (hf : A.frames = some X.stack)
    (hT : Txs X σ π H0 n as xs ts) (hsz : b0 + (listText ts).length ≤ sizeLine) (G : Goes X σ π H0 pins s) (hR : ∀ s' u, Goes X σ π H0 pins s' → R (.ok (.ret (.str (listText ts) u))) s') :
    wpAny (model X.prog X.w) A.in1 (Builtin.listReprAt b0 ⟨[.ref a], []⟩) (FinR X A R) (fun e s' => R (.error e) s') s := by
  obtain ⟨H, I, e⟩ := G
  obtain ⟨its, rv, ⟨o, m, ho, _, _, hd⟩, hl⟩ := I.list (SqL.of (e.kp a _ hap ha))
  cases its with
  | nil =>
    cases rv
    exact absurd rfl hx
  | cons y ys =>
    refine wpAny_list_repr_head (A := A.in1) hg (fun v rest kw hm => listSameRef_of_ne (hcl a (.head _) _ _ _ _ hm)) ho hd ?_
    refine wpAny_bind (m := newList []) (wpAny_newObj_type ?_)
    refine wpAny_pure ⟨F.quiet_list_repr_loop _, ?_⟩
    have IP : Inv X ((s.heap.objs.size, partsObj #[] 0) :: pins) σ H { s with heap := s.heap.push (partsObj #[] 0) } := ClX.pin_new (t' := s.toks) I (fun b u z => Heap.get?_push_of_some _ z) (Nat.le_refl _) (Heap.get?_push_size _ rfl) (fun v z => by cases z)
    refine list_loopG (P := s.heap.objs.size) (pins := pins) ha hap hna hg (fun b hb => hcl b (.tail _ hb)) hr hf hT.1 hT.2 hsz I.sz (fun x c z => ?_) (fun p hp z => ?_) hR _ 0 _ #[] _ [] rfl (Nat.zero_le _) ⟨H, IP, e⟩ rfl (by simp)
    · obtain ⟨v, o, q, _⟩ := I.cell x c z
      exact Nat.ne_of_lt (Heap.lt_size q)
    · have q := (I.pin p hp).1
      exact Nat.ne_of_lt (Heap.lt_size q) z
theorem RpG.list {a : Addr} {xs : List V} {ts : List Str} {as : List Addr} (ha : H0 a = some (.lst xs)) (hap : a ≠ π) (hna : a ∉ as) (hT : Txs X σ π H0 n as xs ts) : RpG X σ π H0 (n + 1) (a :: as) (.ref a) (listText ts) := fun b0 A g pins s E Q hb hg hcl hr hf G hQ => by
  obtain ⟨H, I, e⟩ := _root_.id G
  obtain ⟨its, rv, ⟨o, m, ho, hc, _, hd⟩, hl⟩ := I.list (SqL.of (e.kp a _ hap ha))
  have hu := hr.un
  refine wpAny_pyReprUnder_ref (by omega) ?_
  by_cases hx : xs = []
  · subst hx
    cases rv
    have ht : ts = [] := List.length_eq_zero_iff.mp hT.1
    subst ht
    exact wpAny_pyReprObjUnder_list_empty ⟨o, ho, hc⟩ (by omega) ho hd ⟨_, _, rfl, hQ _ ⟨H, I.tok _, e⟩⟩
  · refine wpAny_pyReprObjUnder_twin (twin := "list.__repr__.under") ⟨o, ho, hc⟩ F.slot_list_repr.toG rfl (by omega) ?_
    exact call_twin_plain F.plain_list_repr_under F.entry_list_repr_under F.check_list_repr_under ⟨o, ho, hc⟩ F.slot_list_repr.toG (F.args_list_repr_1 _)
      (list_atG (pins := pins) (R := callEnd (fun v s' => (∃ x u, v = .str x u) ∧ ∃ x u, v = .str x u ∧ Q x s') E) ha hap hna hx hg hcl hr hf hT hb G fun s' u G' => ⟨⟨_, _, rfl⟩, _, _, rfl, hQ _ G'⟩)
theorem call_listG {a : Addr} {xs : List V} {ts : List Str} {as : List Addr} {A : Around} {E : Value → Shared → Prop} {Q : Value → Shared → Prop} {s : Shared} (ha : H0 a = some (.lst xs)) (hap : a ≠ π) (hna : a ∉ as) (hT : Txs X σ π H0 n as xs ts) (hg : A.guards = some []) (hr : RoomV X.A.handled (n + 2) A) (hf : A.frames = some X.stack)
    (hsz : (listText ts).length ≤ sizeLine) (G : Goes X σ π H0 pins s) (hQ : ∀ s' u, Goes X σ π H0 pins s' → Q (.str (listText ts) u) s') : wpAny (model X.prog X.w) A (call (.builtin "repr") [.ref a]) Q E s := by
  obtain ⟨H, I, e⟩ := _root_.id G
  obtain ⟨its, rv, ⟨o, m, ho, hc, _, hd⟩, hl⟩ := I.list (SqL.of (e.kp a _ hap ha))
  have hu := hr.un
  refine call_repr_slot (by omega) ⟨o, ho, hc⟩ F.slot_list_repr.toG ?_
  by_cases hx : xs = []
  · subst hx
    cases rv
    have ht : ts = [] := List.length_eq_zero_iff.mp hT.1
    subst ht
    exact call_list_repr_empty ⟨o, ho, hc⟩ ho hd ⟨_, _, rfl, hQ _ _ ⟨H, I.tok _, e⟩⟩
  · exact wpAny_call (codeAny_call_builtin F.slot_list_repr.plain F.entry_list_repr (F.slot_list_repr.check _ _ _ _ _ _ _ _ ⟨o, ho, hc⟩ (F.args_list_repr_1 _)
      (list_atG (A := A.in1) (pins := pins) (b0 := 0) (R := callEnd (fun v s' => ∃ x u, v = .str x u ∧ Q v s') E) ha hap hna hx hg (fun b _ => Clear.nil b) hr.in1 hf hT (by omega) G fun s' u G' => ⟨_, _, rfl, hQ _ _ G'⟩)))
/-- the fold over a tuple's items -/
theorem tup_foldG {as : List Addr} {A : Around} {g : List Code} {E : Value → Shared → Prop} (hg : A.guards = some g) (hcl : ∀ b ∈ as, Clear g b) (hr : RoomV X.A.handled n A) (hf : A.frames = some X.stack) :
    ∀ (its : List Value) (ts : List Str) (acc : Array Str) (m : Nat) (s : Shared) (Q : Array Str × Nat → Shared → Prop), ts.length = its.length → (∀ (i : Nat) (v : Value), its[i]? = some v → ∃ t, ts[i]? = some t ∧ RpG X σ π H0 n as v t) → m + piled ts ≤ sizeLine → Goes X σ π H0 pins s →
      (∀ s', Goes X σ π H0 pins s' → Q (acc ++ ts.toArray, m + piled ts) s') → wpAny (model X.prog X.w) A (forIn its ((acc, m) : Array Str × Nat) tupBody) Q E s
  | [], ts, acc, m, s, Q, hl, _, _, G, hQ => by
    have ht : ts = [] := List.length_eq_zero_iff.mp hl
    subst ht
    rw [List.forIn_nil]
    refine wpAny_pure ?_
    have z := hQ s G
    rw [show acc ++ ([] : List Str).toArray = acc by simp, piled_nil] at z
    exact z
  | y :: its, [], acc, m, s, Q, hl, _, _, G, hQ => by cases hl
  | y :: its, t :: ts, acc, m, s, Q, hl, hT, hz, G, hQ => by
    rw [piled_cons] at hz
    rw [List.forIn_cons]
    obtain ⟨t1, e1, r1⟩ := hT 0 y rfl
    obtain rfl : t = t1 := Option.some.inj e1
    refine wpAny_bind (wpAny_bind (r1 (m + 1) A g pins s E _ (by omega) hg hcl hr hf G fun s' G' => wpAny_pure ?_))
    refine tup_foldG hg hcl hr hf its ts (acc.push t) (m + (t.length + 2)) s' Q (Nat.succ.inj hl) (fun i v h => hT (i + 1) v h) (by omega) G' fun s2 G2 => ?_
    have z := hQ s2 G2
    rw [piled_cons] at z
    rw [show acc.push t ++ ts.toArray = acc ++ (t :: ts).toArray by simp, show m + (t.length + 2) + piled ts = m + (t.length + 2 + piled ts) by omega]
    exact z
theorem w_tup {id : String} (args : Args) (hi : id = "tuple.__repr__" ∨ id = "tuple.__repr__.under") : (Code.builtin id args).weight ≤ 3 ∧ (Code.builtin id args).cUnits ≤ 16 := by
  have f : (Code.builtin id args).frames = 0 := by rcases hi with rfl | rfl <;> first | rfl | simp [Code.frames, Code.isFrame]
  refine ⟨?_, by show 1 + 3 * _ ≤ 16; rw [f]; decide⟩
  have c : (Code.builtin id args).isCreation = false := by rcases hi with rfl | rfl <;> rfl
  have d : (Code.builtin id args).isCaller = false := by rcases hi with rfl | rfl <;> rfl
  have q : (Code.builtin id args).isGuard = true := by
    rcases hi with rfl | rfl
    · exact isGuard_tuple_repr args
    · exact isGuard_tuple_repr_under args
  unfold Code.weight
  rw [c, d, f, q, if_neg (by decide), if_pos rfl, if_neg (by decide)]
  decide
theorem tup_atG {a : Addr} {xs : List V} {ts : List Str} {as : List Addr} {b0 : Nat} {id : String} {rest : List Value} {A : Around} {g : List Code} {R : Result → Shared → Prop} {s : Shared} (hi : id = "tuple.__repr__" ∨ id = "tuple.__repr__.under") (hS : ∀ H, Ex π H0 H → SqT X.K H a xs) (hna : a ∉ as) (hg : A.guards = some g) (hcl : ∀ b ∈ a :: as, Clear g b) (hr : RoomV X.A.handled (n + 1) A) (hf : A.frames = some X.stack)
    (hT : Txs X σ π H0 n as xs ts) (hsz : b0 + (tupleText ts).length ≤ sizeLine) (G : Goes X σ π H0 pins s) (hR : ∀ s' u, Goes X σ π H0 pins s' → R (.ok (.ret (.str (tupleText ts) u))) s') :
    wpOwn (model X.prog X.w) A (.builtin id ⟨.ref a :: rest, []⟩) (Builtin.tupleReprAt b0 ⟨[.ref a], []⟩) (FinR X A R) (fun e s' => R (.error e) s') s := by
  obtain ⟨H, I, e⟩ := _root_.id G
  obtain ⟨its, rv, ⟨o, ho, hc, m, hd⟩, hl⟩ := I.tuple (hS H e)
  have hlen : ts.length = its.length := hT.1.trans rv.length
  have hp := piled_le_tupleText ts
  have hsz2 : (tupleText ts).length ≤ sizeLine := by omega
  have wu := w_tup (id := id) ⟨.ref a :: rest, []⟩ hi
  have hgd : (Code.builtin id ⟨.ref a :: rest, []⟩).isGuard = true := by
    rcases hi with rfl | rfl
    · exact isGuard_tuple_repr _
    · exact isGuard_tuple_repr_under _
  rw [tuple_repr_tree, tupleReprUnderWay_eq]
  refine wpOwn_bind (wpOwn_stackTailAny hg (tupGuardF_off _) (tupGuardF_pos _) ?_)
  have off : (g.any fun c => tupGuardF (.ref a) (c, default)) = false := List.any_eq_false.mpr fun c hm => by
    rw [tupGuardF_of_clear (hcl a (.head _)) c hm]
    exact Bool.false_ne_true
  rw [off]
  refine wpOwn_of_wpAny ?_
  show wpAny _ _ (tupleReprRest b0 (.ref a)) _ _ s
  unfold tupleReprRest Builtin.Tuple.tupleItemsOf
  refine wpAny_bind (wpAny_bind (wpAny_seqItems ho hd (wpAny_pure ?_)))
  rw [← Array.forIn_toList]
  refine wpAny_bind (tup_foldG (pins := pins) (guards_under_guard hgd hg) (fun b hb => (hcl b (.tail _ hb)).cons (a := a) fun z => hna (z ▸ hb)) (room_under hr wu.1 wu.2) hf _ ts _ _ _ _ (by simpa using hlen) (fun i v h => ?_) (by omega) G fun s' G' => ?_)
  · have h' : its[i]? = some v := by simpa using h
    have hi2 : i < its.length := (List.getElem?_eq_some_iff.mp h').1
    have hx : i < xs.length := by rw [rv.length]; exact hi2
    obtain ⟨t, ht, q⟩ := hT.2 i xs[i] (List.getElem?_eq_getElem hx)
    obtain ⟨v1, e1, rx⟩ := rv.get (List.getElem?_eq_getElem hx)
    obtain rfl : v = v1 := Option.some.inj (h'.symm.trans e1)
    exact ⟨t, ht, q v rx⟩
  · obtain ⟨H', I', e'⟩ := G'
    refine wpAny_bind (wpAny_mkStr (wpAny_pure ?_) (by simpa [tupleText, hlen] using hsz2))
    have z := hR { s' with toks := s'.toks + 1 } s'.toks ⟨H', I'.tok _, e'⟩
    simpa [tupleText, hlen] using z
theorem RpG.tup {a : Addr} {xs : List V} {ts : List Str} {as : List Addr} (hS : ∀ H, Ex π H0 H → SqT X.K H a xs) (hna : a ∉ as) (hT : Txs X σ π H0 n as xs ts) : RpG X σ π H0 (n + 1) (a :: as) (.ref a) (tupleText ts) := fun b0 A g pins s E Q hb hg hcl hr hf G hQ => by
  obtain ⟨H, I, e⟩ := _root_.id G
  obtain ⟨its, rv, ⟨o, ho, hc, m, hd⟩, hl⟩ := I.tuple (hS H e)
  have hu := hr.un
  refine wpAny_pyReprUnder_ref (by omega) ?_
  refine wpAny_pyReprObjUnder_twin (twin := "tuple.__repr__.under") ⟨o, ho, hc⟩ F.slot_tuple_repr rfl (by omega) ?_
  exact call_twin_own (F.quiet_tuple_repr_under _) F.entry_tuple_repr_under F.check_tuple_repr_under ⟨o, ho, hc⟩ F.slot_tuple_repr (F.args_tuple_repr_1 _)
    (tup_atG (pins := pins) (R := callEnd (fun v s' => (∃ x u, v = .str x u) ∧ ∃ x u, v = .str x u ∧ Q x s') E) (.inr rfl) hS hna hg hcl hr hf hT hb G fun s' u G' => ⟨⟨_, _, rfl⟩, _, _, rfl, hQ _ G'⟩)
theorem call_tupG {a : Addr} {xs : List V} {ts : List Str} {as : List Addr} {A : Around} {E : Value → Shared → Prop} {Q : Value → Shared → Prop} {s : Shared} (hS : ∀ H, Ex π H0 H → SqT X.K H a xs) (hna : a ∉ as) (hT : Txs X σ π H0 n as xs ts) (hg : A.guards = some []) (hr : RoomV X.A.handled (n + 2) A) (hf : A.frames = some X.stack)
    (hsz : (tupleText ts).length ≤ sizeLine) (G : Goes X σ π H0 pins s) (hQ : ∀ s' u, Goes X σ π H0 pins s' → Q (.str (tupleText ts) u) s') : wpAny (model X.prog X.w) A (call (.builtin "repr") [.ref a]) Q E s := by
  obtain ⟨H, I, e⟩ := _root_.id G
  obtain ⟨its, rv, ⟨o, ho, hc, m, hd⟩, hl⟩ := I.tuple (hS H e)
  have hu := hr.un
  refine call_repr_slot (by omega) ⟨o, ho, hc⟩ F.slot_tuple_repr ?_
  exact wpAny_call (codeAny_call_builtin_own (Code.quiet_builtin _ (by decide +kernel)) F.entry_tuple_repr (F.slot_tuple_repr.check _ _ _ _ _ _ _ _ ⟨o, ho, hc⟩ (F.args_tuple_repr_1 _)
    (tup_atG (A := A.in1) (pins := pins) (b0 := 0) (R := callEnd (fun v s' => ∃ x u, v = .str x u ∧ Q v s') E) (.inl rfl) hS hna hg (fun b _ => Clear.nil b) hr.in1 hf hT (by omega) G fun s' u G' => ⟨_, _, rfl, hQ _ _ G'⟩)))
end
end Pd
namespace Pd
open PySem L2 PySem.Spec PyProof.Rows
mutual
def D.hgt : D → Nat
  | .tup ds => D.hgts ds + 1
  | .lst ds => D.hgts ds + 1
  | .non => 0
  | .bl _ => 0
  | .int _ => 0
  | .str _ => 0
  | .dic _ => 0
  | .pot => 0
  | .ins _ _ => 0
  | .fn _ => 0
  | .rng _ => 0
  | .dik _ => 0
  | .clo _ _ => 0
def D.hgts : List D → Nat
  | [] => 0
  | d :: ds => max (D.hgt d) (D.hgts ds)
end
def dikTx (kvs : List (Int × Int)) : Option Str := if (kvs.all fun p => decide (p.1.natAbs.log2 < 1920) && decide (p.2.natAbs.log2 < 1920)) = true then some (dictText (kvs.map fun p => ((toString p.1 : String) : Str) ++ ": " ++ ((toString p.2 : String) : Str))) else none
mutual
/-- the text; R: an instance's -/
def D.tx (R : D → Option Str) : D → Option Str
  | .non => some "None"
  | .bl b => some (if b then "True" else "False")
  | .int i => if i.natAbs.log2 < 1920 then some (toString i : String) else none
  | .str x => if (reprText x).length ≤ sizeLine then some (reprText x) else none
  | .tup ds => match D.txs R ds with
    | some ts => some (tupleText ts)
    | none => none
  | .lst ds => match D.txs R ds with
    | some ts => some (listText ts)
    | none => none
  | .dic kvs => if kvs.isEmpty then some "{}" else none
  | .pot => none
  | .fn _ => none
  | .rng _ => none
  | .dik kvs => dikTx kvs
  | .clo _ _ => none
  | .ins c fs => R (.ins c fs)
def D.txs (R : D → Option Str) : List D → Option (List Str)
  | [] => some []
  | d :: ds => match D.tx R d with
    | none => none
    | some t => match D.txs R ds with
      | none => none
      | some ts => some (t :: ts)
end
/-- constant tuples stand apart -/
structure Apart (K : PySem.W.Frag) (π : Addr) (H : Hp) : Prop where
  inj : ∀ (a : Addr) (xs ys : List V), (∀ H', SqT K H' a xs) → (∀ H', SqT K H' a ys) → xs = ys
  off : ∀ (a : Addr) (xs : List V), (∀ H', SqT K H' a xs) → H a = none
  pot : ∀ (xs : List V), ¬ ∀ H', SqT K H' π xs
  fn : ∀ (a : Addr), (∃ o f, K.lookup a = some o ∧ o.data = .func f) → H a = none ∧ (∀ xs, ¬ ∀ H', SqT K H' a xs)
theorem txs_cons {R : D → Option Str} {d : D} {ds : List D} {ts : List Str} (h : D.txs R (d :: ds) = some ts) : ∃ t us, ts = t :: us ∧ D.tx R d = some t ∧ D.txs R ds = some us := by
  unfold D.txs at h
  split at h
  · cases h
  · rename_i t ht
    split at h
    · cases h
    · rename_i us hu
      cases h
      exact ⟨_, _, rfl, ht, hu⟩
theorem tx_tup {R : D → Option Str} {ds : List D} {t : Str} (h : D.tx R (.tup ds) = some t) : ∃ ts, D.txs R ds = some ts ∧ t = tupleText ts := by
  unfold D.tx at h
  split at h
  · rename_i ts hs
    cases h
    exact ⟨_, hs, rfl⟩
  · cases h
theorem tx_lst {R : D → Option Str} {ds : List D} {t : Str} (h : D.tx R (.lst ds) = some t) : ∃ ts, D.txs R ds = some ts ∧ t = listText ts := by
  unfold D.tx at h
  split at h
  · rename_i ts hs
    cases h
    exact ⟨_, hs, rfl⟩
  · cases h
theorem tx_dic {R : D → Option Str} {kvs : List (D × D)} {t : Str} (h : D.tx R (.dic kvs) = some t) : kvs = [] ∧ t = "{}" := by
  unfold D.tx at h
  split at h
  · rename_i e
    cases h
    exact ⟨List.isEmpty_iff.mp e, rfl⟩
  · cases h
section
variable {K : PySem.W.Frag} {P : Program} {w : World} {π : Addr} {H : Hp} {R : D → Option Str}
mutual
theorem hgt_same (f : Apart K π H) : ∀ {d d' : D} {v : V} {t : Str}, D.tx R d = some t → Rv K P w π H v d → Rv K P w π H v d' → D.hgt d' = D.hgt d
  | .non, d', v, t, h, r, r' => by cases r; cases r'; rfl
  | .bl _, d', v, t, h, r, r' => by cases r; cases r'; rfl
  | .int _, d', v, t, h, r, r' => by cases r; cases r'; rfl
  | .str _, d', v, t, h, r, r' => by cases r; cases r'; rfl
  | .dic _, d', v, t, h, r, r' => by
    cases r with
    | dic e n _ => cases r' with
      | tup e' n' l' => rw [e] at e'; cases e'
      | tupK e' l' => rw [f.off _ _ e'] at e; cases e
      | lst e' n' l' => rw [e] at e'; cases e'
      | dic e' n' l' => rfl
      | pot => exact absurd rfl n
      | ins c' e' n' fs' => rfl
      | fn c' e' => rw [(f.fn _ e').1] at e; cases e
      | rng e' n' => rw [e] at e'; cases e'
      | dik e' n' => rw [e] at e'; cases e'
      | clo _ e' _ _ _ _ _ => rw [e] at e'; cases e'
  | .pot, d', v, t, h, r, r' => by cases h
  | .fn _, d', v, t, h, r, r' => by cases h
  | .rng _, d', v, t, h, r, r' => by cases h
  | .clo _ _, d', v, t, h, r, r' => by cases h
  | .dik _, d', v, t, h, r, r' => by
    cases r with
    | dik e n => cases r' with
      | tup e' n' l' => rw [e] at e'; cases e'
      | tupK e' l' => rw [f.off _ _ e'] at e; cases e
      | lst e' n' l' => rw [e] at e'; cases e'
      | dic e' n' l' => rfl
      | pot => exact absurd rfl n
      | ins c' e' n' fs' => rfl
      | fn c' e' => rw [(f.fn _ e').1] at e; cases e
      | rng e' n' => rw [e] at e'; cases e'
      | dik e' n' => rfl
      | clo _ e' _ _ _ _ _ => rw [e] at e'; cases e'
  | .ins _ _, d', v, t, h, r, r' => by
    cases r with
    | ins c e n fs => cases r' with
      | tup e' n' l' => rw [e] at e'; cases e'
      | tupK e' l' => rw [f.off _ _ e'] at e; cases e
      | lst e' n' l' => rw [e] at e'; cases e'
      | dic e' n' l' => rfl
      | pot => exact absurd rfl n
      | ins c' e' n' fs' => rfl
      | fn c' e' => rw [(f.fn _ e').1] at e; cases e
      | rng e' n' => rw [e] at e'; cases e'
      | dik e' n' => rw [e] at e'; cases e'
      | clo _ e' _ _ _ _ _ => rw [e] at e'; cases e'
  | .lst ds, d', v, t, h, r, r' => by
    obtain ⟨ts, hs, _⟩ := tx_lst h
    cases r with
    | lst e n l => cases r' with
      | tup e' n' l' => rw [e] at e'; cases e'
      | tupK e' l' => rw [f.off _ _ e'] at e; cases e
      | lst e' n' l' =>
        rw [e] at e'
        cases e'
        exact congrArg Nat.succ (hgts_same f hs l l')
      | dic e' n' l' => rw [e] at e'; cases e'
      | pot => exact absurd rfl n
      | ins c' e' n' fs' => rw [e] at e'; cases e'
      | fn c' e' => rw [(f.fn _ e').1] at e; cases e
      | rng e' n' => rw [e] at e'; cases e'
      | dik e' n' => rw [e] at e'; cases e'
      | clo _ e' _ _ _ _ _ => rw [e] at e'; cases e'
  | .tup ds, d', v, t, h, r, r' => by
    obtain ⟨ts, hs, _⟩ := tx_tup h
    cases r with
    | tup e n l => cases r' with
      | tup e' n' l' =>
        rw [e] at e'
        cases e'
        exact congrArg Nat.succ (hgts_same f hs l l')
      | tupK e' l' => rw [f.off _ _ e'] at e; cases e
      | lst e' n' l' => rw [e] at e'; cases e'
      | dic e' n' l' => rw [e] at e'; cases e'
      | pot => exact absurd rfl n
      | ins c' e' n' fs' => rw [e] at e'; cases e'
      | fn c' e' => rw [(f.fn _ e').1] at e; cases e
      | rng e' n' => rw [e] at e'; cases e'
      | dik e' n' => rw [e] at e'; cases e'
      | clo _ e' _ _ _ _ _ => rw [e] at e'; cases e'
    | tupK e l => cases r' with
      | tup e' n' l' => rw [f.off _ _ e] at e'; cases e'
      | tupK e' l' =>
        have z := f.inj _ _ _ e e'
        subst z
        exact congrArg Nat.succ (hgts_same f hs l l')
      | lst e' n' l' => rw [f.off _ _ e] at e'; cases e'
      | dic e' n' l' => rw [f.off _ _ e] at e'; cases e'
      | pot => exact absurd e (f.pot _)
      | ins c' e' n' fs' => rw [f.off _ _ e] at e'; cases e'
      | fn c' e' => exact absurd e ((f.fn _ e').2 _)
      | rng e' n' => rw [f.off _ _ e] at e'; cases e'
      | dik e' n' => rw [f.off _ _ e] at e'; cases e'
      | clo _ e' _ _ _ _ _ => rw [f.off _ _ e] at e'; cases e'
theorem hgts_same (f : Apart K π H) : ∀ {ds ds' : List D} {vs : List V} {ts : List Str}, D.txs R ds = some ts → RvL K P w π H vs ds → RvL K P w π H vs ds' → D.hgts ds' = D.hgts ds
  | [], ds', vs, ts, h, r, r' => by cases r; cases r'; rfl
  | d :: ds, ds', vs, ts, h, r, r' => by
    obtain ⟨t, us, _, h1, h2⟩ := txs_cons h
    cases r with
    | cons r l => cases r' with
      | cons r' l' =>
        show max _ _ = max _ _
        rw [hgt_same f h1 r r', hgts_same f h2 l l']
end
end
section
variable {X : Cx} {σ : L2.St} {π : Addr} {H0 : Hp} {N : Addr → Bool} {pins : List (Addr × Obj)}
theorem Apart.of {s : Shared} {H : Hp} (I : Inv X pins σ H s) (hp : PotOk H π) : Apart X.K π (Hide N H) := by
  have none : ∀ (a : Addr) (xs : List V), (∀ H', SqT X.K H' a xs) → H a = none := fun a xs h => by
    rcases h (fun _ => Option.none) with z | ⟨o, its, n, hk, _⟩
    · rcases z with z | ⟨o, z⟩ <;> cases z
    · exact (I.bs a o (I.ok.mod.kin a o hk)).2
  refine ⟨fun a xs ys h h' => I.tuple_inj (h H) (h' H), fun a xs h => ?_, fun xs h => ?_, fun a h => ?_⟩
  · unfold Hide
    split
    · rfl
    · exact none a xs h
  · obtain ⟨x, y, e, _⟩ := hp
    rw [none π xs h] at e
    cases e
  · obtain ⟨o, fd, hl, hd⟩ := h
    have hn := (I.bs a o (I.ok.mod.kin a o hl)).2
    refine ⟨?_, fun xs hx => ?_⟩
    · unfold Hide
      split
      · rfl
      · exact hn
    · rcases hx (fun _ => Option.none) with z | ⟨o2, its, n, hk, _, hd2, _⟩
      · rcases z with z | ⟨o, z⟩ <;> cases z
      · rw [hl] at hk
        cases hk
        rw [hd] at hd2
        cases hd2
/-- {} -/
theorem RpG.dict0 {n : Nat} {a : Addr} {od : Obj} (ha : H0 a = some (.frz od (DN X.prog X.w a []))) (hap : a ≠ π) : RpG X σ π H0 n [a] (.ref a) "{}" := fun b0 A g pins s E Q hb hg hcl hr hf ⟨H, I, e⟩ hQ => by
  obtain ⟨sys, _, zs, pr, o, es, ep, h1, h2, h3, h4, _⟩ := dn_of (xs := []) I (.inr ⟨od, e.kp a _ hap ha⟩) ⟨π, fun _ => false, [], .nil⟩
  have hz : es = #[] := by
    have q : zs = [] := by cases pr; rfl
    subst q
    exact Array.toList_eq_nil_iff.mp h4
  subst hz
  have hu := hr.un
  exact (ReprK.dict (prog := X.prog) (w := X.w) (as := []) (h₀ := s.heap) (d := 0) h1 h2.1 h3 sys (fun z => nomatch z) .nil) b0 hb A g E s _ hg hcl (by omega) (fun _ _ z => z) fun h' tk hk => hQ _ ⟨H, I.kept (t' := tk) hk, e⟩
/-- {1: 2} -/
theorem dik_run {a : Addr} {od : Obj} {kvs : List (Int × Int)} {t : Str} (ht : dikTx kvs = some t) (ha : H0 a = some (.frz od (.dK (kvs.map fun p => (.inl p.1, V.int p.2))))) (hap : a ≠ π) {H : Hp} (I : L2.Inv X pins σ H s) (e : Ex π H0 H) :
    ∃ (o : Obj) (es : Array DictEntry) (ep : Nat) (ps : List Str), s.heap.get? a = some o ∧ o.ExactDict ∧ o.data = .dict es ep ∧ (a == sysModules) = false ∧ t = dictText ps ∧ ReprEntriesK X.prog X.w [] s.heap 0 es.toList ps := by
  unfold dikTx at ht
  split at ht
  rename_i hb
  cases ht
  obtain ⟨h1, h2, sys, vs, rv, o, es, ep, ho, hc, hd, hk, hp, _⟩ := I.hok a _ (e.kp a _ hap ha)
  refine ⟨o, es, ep, _, ho, hc, hd, sys, rfl, ?_⟩
  have go : ∀ (kvs : List (Int × Int)) (l : List DictEntry) (vs : List (Key × Value)), (kvs.all fun p => decide (p.1.natAbs.log2 < 1920) && decide (p.2.natAbs.log2 < 1920)) = true → KV (kvs.map fun p => (Sum.inl p.1, V.int p.2)) vs → Pairs (mixKind X.prog X.w) l vs → ReprEntriesK X.prog X.w [] s.heap 0 l (kvs.map fun p => ((toString p.1 : String) : Str) ++ ": " ++ ((toString p.2 : String) : Str)) := by
    intro kvs
    induction kvs with
    | nil => intro l vs _ h1 h2; cases h1; cases h2; exact .nil
    | cons p kvs ih =>
      intro l vs hb h1 h2
      obtain ⟨k, v⟩ := p
      cases h1 with
      | cons r t =>
      cases h2 with
      | cons x1 x2 x3 =>
      rename_i q vs2 en l2
      obtain ⟨q1, q2⟩ := q
      obtain ⟨r1, u, r2⟩ := r
      have r1 : Sum.inl k = q1 := r1
      subst r1
      have r2 : q2 = Value.int v u := r2
      subst r2
      simp only [List.all_cons, Bool.and_eq_true, decide_eq_true_eq] at hb
      rcases keyIs_shape (k := Sum.inl k) (v := en.key) x1 with ⟨i2, tk, e1, e2⟩ | ⟨x, tk, e1, e2⟩
      · cases e1
        refine .cons ?_ ?_ (ih _ _ hb.2 t x3)
        · rw [e2]
          exact .of_is (.int tk hb.1.1) _ _ _
        · rw [x2]
          exact .of_is (.int u hb.1.2) _ _ _
      · cases e1
  exact go kvs _ vs hb rv hp
  cases ht
/-- an instance's text by its own method -/
def TxOk (X : Cx) (k : Nat) (R : D → Option Str) : Prop := ∀ (c : Str) (fs : List (Str × D)) (t : Str), R (.ins c fs) = some t → ∃ (C f : Addr) (fd : FuncData) (ps : List Str) (F : List D → T D), ClsAt X.K c C ∧ OwnTxt X.K C "__repr__" f ∧ FnOk X.prog X.w X.K X.mg X.base CX0 k f fd ps (spD X.K X.prog X.w 1 F) ∧ Binds X.K fd ps [] ∧ F [.ins c fs] = .ret (.str t)
def TxV (X : Cx) (k : Nat) (R : D → Option Str) : Prop := ∀ (c : Str) (fs : List (Str × D)) (t : Str), R (.ins c fs) = some t → ∃ (C f : Addr) (fd : FuncData) (ps : List Str) (F : List D → T D), ClsAt X.K c C ∧ OwnTxt X.K C "__repr__" f ∧ FnV X.A.handled X.prog X.w X.K X.mg X.base k f fd ps (spD X.K X.prog X.w 1 F) ∧ Binds X.K fd ps [] ∧ F [.ins c fs] = .ret (.str t)
theorem TxOk.toV {X : Cx} {k : Nat} {R : D → Option Str} (h : TxOk X k R) (hh : X.A.handled = none) : TxV X k R := fun c fs t e => let ⟨C, f, fd, ps, F, a1, a2, a3, a4, a5⟩ := h c fs t e; ⟨C, f, fd, ps, F, a1, a2, fnV_of a3 hh, a4, a5⟩
/-- the places under way, all of things of no greater height -/
def Low (X : Cx) (π : Addr) (H : Hp) (R : D → Option Str) (m : Nat) (as : List Addr) : Prop := ∀ b ∈ as, ∃ d, Rv X.K X.prog X.w π H (.ref b) d ∧ (∃ t, D.tx R d = some t) ∧ D.hgt d ≤ m
theorem low_nil {π : Addr} {H : Hp} {R : D → Option Str} {m : Nat} : Low X π H R m [] := fun _ z => (List.not_mem_nil z).elim
mutual
theorem tx_run {k : Nat} {R : D → Option Str} (hR : TxV X k R) (hn : HN π N H0) (f : Apart X.K π (Hide N H0)) : ∀ {d : D} {v : V} {t : Str}, D.tx R d = some t → Rv X.K X.prog X.w π (Hide N H0) v d → ∃ as, Low X π (Hide N H0) R (D.hgt d) as ∧ ∀ u, RelV v u → RpG X σ π H0 (k + D.hgt d) as u t
  | .non, v, t, h, r => by
    cases r; cases h
    exact ⟨[], low_nil, fun u ru => by cases ru; exact .leaf .none⟩
  | .bl b, v, t, h, r => by
    cases r; cases h
    exact ⟨[], low_nil, fun u ru => by cases ru; exact .leaf (.bool b)⟩
  | .int i, v, t, h, r => by
    cases r
    unfold D.tx at h
    split at h
    · rename_i hi
      cases h
      exact ⟨[], low_nil, fun u ru => by obtain ⟨tk, rfl⟩ := ru; exact .leaf (.int tk hi)⟩
    · cases h
  | .str x, v, t, h, r => by
    cases r
    unfold D.tx at h
    split at h
    · rename_i hx
      cases h
      exact ⟨[], low_nil, fun u ru => by obtain ⟨tk, rfl⟩ := ru; exact .leaf (.str x tk hx)⟩
    · cases h
  | .dic _, v, t, h, r => by
    obtain ⟨rfl, rfl⟩ := tx_dic h
    have r0 := r
    cases r with
    | dic e n l =>
      cases l
      exact ⟨[_], fun b hb => by obtain rfl := List.mem_singleton.mp hb; exact ⟨_, r0, ⟨_, h⟩, Nat.le_refl _⟩, fun u ru => by cases ru; exact .dict0 (hide_some e).2 n⟩
  | .dik kvs, v, t, h, r => by
    have r0 := r
    cases r with
    | dik e n =>
      rename_i a od
      exact ⟨[a], fun b hb => by obtain rfl := List.mem_singleton.mp hb; exact ⟨_, r0, ⟨_, h⟩, Nat.le_refl _⟩, fun u ru => by
        cases ru
        intro b0 A g pins s E Q hb hg hcl hr hf ⟨H, I, e2⟩ hQ
        obtain ⟨o, es, ep, ps, h1, h2, h3, sys, rfl, hE⟩ := dik_run h (hide_some e).2 n I e2
        have hu := hr.un
        exact (ReprK.dict (prog := X.prog) (w := X.w) (as := []) (h₀ := s.heap) (d := 0) h1 h2.1 h3 sys (fun z => nomatch z) hE) b0 hb A g E s _ hg hcl (by omega) (fun _ _ z => z) fun h2 tk hk => hQ _ ⟨H, I.kept (t' := tk) hk, e2⟩⟩
  | .pot, v, t, h, r => by cases h
  | .clo _ _, v, t, h, r => by cases h
  | .ins c fs, v, t, h, r => by
    obtain ⟨C, fa, fd, ps, F, at_, O, G, B, hF⟩ := hR c fs t h
    have r0 := r
    cases r with
    | ins hc e n fs' =>
      have ec := at_.one hc
      subst ec
      exact ⟨[], low_nil, fun u ru => by cases ru; exact (RpG.own O G B hn (hide_some e).2 n r0 hF).mono (Nat.le_add_right _ _)⟩
  | .lst ds, v, t, h, r => by
    obtain ⟨ts, hs, rfl⟩ := tx_lst h
    have r0 := r
    cases r with
    | lst e n l =>
      rename_i a vs
      obtain ⟨as, lo, T⟩ := txs_run hR hn f hs l
      refine ⟨a :: as, fun b hb => ?_, fun u ru => by
        cases ru
        refine RpG.list (hide_some e).2 n (fun z => ?_) T
        obtain ⟨d', r', ⟨t', h'⟩, l'⟩ := lo a z
        have q := hgt_same f h r0 r'
        rw [q] at l'
        exact absurd l' (Nat.not_succ_le_self _)⟩
      rcases List.mem_cons.mp hb with z | z
      · subst z
        exact ⟨_, r0, ⟨_, h⟩, Nat.le_refl _⟩
      · obtain ⟨d', r', h', l'⟩ := lo b z
        exact ⟨d', r', h', Nat.le_succ_of_le l'⟩
  | .tup ds, v, t, h, r => by
    obtain ⟨ts, hs, rfl⟩ := tx_tup h
    have go : ∀ (a : Addr) (vs : List V), v = .ref a → (∀ H, Ex π H0 H → SqT X.K H a vs) → RvL X.K X.prog X.w π (Hide N H0) vs ds → ∃ as, Low X π (Hide N H0) R (D.hgt (.tup ds)) as ∧ ∀ u, RelV v u → RpG X σ π H0 (k + D.hgt (.tup ds)) as u (tupleText ts) := fun a vs ev hS l => by
      subst ev
      obtain ⟨as, lo, T⟩ := txs_run hR hn f hs l
      refine ⟨a :: as, fun b hb => ?_, fun u ru => by
        cases ru
        refine RpG.tup hS (fun z => ?_) T
        obtain ⟨d', r', ⟨t', h'⟩, l'⟩ := lo a z
        have q := hgt_same f h r r'
        rw [q] at l'
        exact absurd l' (Nat.not_succ_le_self _)⟩
      rcases List.mem_cons.mp hb with z | z
      · subst z
        exact ⟨_, r, ⟨_, h⟩, Nat.le_refl _⟩
      · obtain ⟨d', r', h', l'⟩ := lo b z
        exact ⟨d', r', h', Nat.le_succ_of_le l'⟩
    cases r with
    | tup e n l => exact go _ _ rfl (fun H x => .of (x.kp _ _ n (hide_some e).2)) l
    | tupK e l => exact go _ _ rfl (fun H _ => e H) l
theorem txs_run {k : Nat} {R : D → Option Str} (hR : TxV X k R) (hn : HN π N H0) (f : Apart X.K π (Hide N H0)) : ∀ {ds : List D} {vs : List V} {ts : List Str}, D.txs R ds = some ts → RvL X.K X.prog X.w π (Hide N H0) vs ds → ∃ as, Low X π (Hide N H0) R (D.hgts ds) as ∧ Txs X σ π H0 (k + D.hgts ds) as vs ts
  | [], vs, ts, h, r => by
    cases r; cases h
    exact ⟨[], low_nil, rfl, fun i x z => by simp at z⟩
  | d :: ds, vs, ts, h, r => by
    obtain ⟨t, us, rfl, h1, h2⟩ := txs_cons h
    cases r with
    | cons r l =>
      obtain ⟨as, lo, T⟩ := tx_run hR hn f h1 r
      obtain ⟨bs, lo2, T2⟩ := txs_run hR hn f h2 l
      have m1 : D.hgt d ≤ D.hgts (d :: ds) := Nat.le_max_left _ _
      have m2 : D.hgts ds ≤ D.hgts (d :: ds) := Nat.le_max_right _ _
      refine ⟨as ++ bs, fun b hb => ?_, congrArg Nat.succ T2.1, fun i x z => ?_⟩
      · rcases List.mem_append.mp hb with z | z
        · obtain ⟨d', r', h', l'⟩ := lo b z
          exact ⟨d', r', h', Nat.le_trans l' m1⟩
        · obtain ⟨d', r', h', l'⟩ := lo2 b z
          exact ⟨d', r', h', Nat.le_trans l' m2⟩
      · cases i with
        | zero =>
          cases z
          exact ⟨t, rfl, fun v rv => ((T v rv).mono (Nat.add_le_add_left m1 k)).more fun b hb => List.mem_append_left _ hb⟩
        | succ i =>
          obtain ⟨t', ht, q⟩ := T2.2 i x z
          exact ⟨t', ht, fun v rv => ((q v rv).mono (Nat.add_le_add_left m2 k)).more fun b hb => List.mem_append_right _ hb⟩
end
end
/-- repr(d) -/
def bReprR (R : D → Option Str) : List D → T D
  | [d] => match D.tx R d with
    | some t => cond (decide (D.hgt d ≤ 6) && decide (t.length ≤ 100000)) (.ret (.str t)) .fail
    | none => .fail
  | _ => .fail
section
variable {X : Cx} {k : Nat} {R : D → Option Str}
theorem cs_reprV (hR : TxV X k R) (hg : X.A.guards = some []) (hr : RoomV X.A.handled (k + 8) X.A) : CaSnd X (.builtin "repr") (bReprR R) := fun {π N H xs ds Q} hn r h => by
  unfold bReprR at h
  split at h
  · rename_i d
    split at h
    · rename_i t ht
      obtain ⟨hb, h⟩ := cond_all h
      simp only [Bool.and_eq_true, decide_eq_true_eq] at hb
      obtain ⟨b2, b3⟩ := hb
      cases r with
      | cons r tl =>
      cases tl
      have hsz : t.length ≤ sizeLine := Nat.le_trans b3 (by decide)
      refine ⟨fun ys H' Q => ys = [_] ∧ H' = H ∧ ∀ H2, Ex π H H2 → Q (.str t) H2, ?_, rfl, rfl, fun H2 e => h _ _ e (.str _)⟩
      intro pins s σ H1 ys vs Q I rvs q
      obtain ⟨rfl, rfl, hq⟩ := q
      obtain ⟨v, rfl, rx⟩ := vals1 rvs
      have hu := hr.un
      have f : Apart X.K π (Hide N H1) := Apart.of I hn.pot
      have G : Goes X σ π H1 pins s := ⟨H1, I, Ex.refl hn.pot⟩
      have fin : ∀ s' u, Goes X σ π H1 pins s' → EP X pins σ Q (.str t u) s' := fun s' u ⟨H', I', e'⟩ => ⟨.str t, H', I', ⟨u, rfl⟩, hq _ e'⟩
      have tok : ∀ tk, EP X pins σ Q (.str t s.toks) { s with toks := tk } := fun tk => fin _ _ ⟨H1, I.tok tk, Ex.refl hn.pot⟩
      cases d with
      | non => cases r; cases rx; cases ht; exact P.repr_of_none (tok _)
      | bl b => cases r; cases rx; cases ht; exact P.repr_of_bool (by cases b <;> exact tok _)
      | int i =>
        cases r
        obtain ⟨tk, rfl⟩ := rx
        unfold D.tx at ht
        split at ht
        · rename_i hi
          cases ht
          exact P.repr_of_int hi (tok _)
        · cases ht
      | str x =>
        cases r
        obtain ⟨tk, rfl⟩ := rx
        unfold D.tx at ht
        split at ht
        · rename_i hx
          cases ht
          exact P.repr_of_str (tok _) hx
        · cases ht
      | pot => cases ht
      | fn _ => cases ht
      | rng _ => cases ht
      | clo _ _ => cases ht
      | dik kvs =>
        cases r with
        | dik e n =>
          cases rx
          obtain ⟨o, es, ep, ps, h1, h2, h3, sys, rfl, hE⟩ := dik_run (pins := pins) (s := s) ht (hide_some e).2 n I (Ex.refl hn.pot)
          exact call_repr_slot (by omega) ⟨o, h1, h2.1⟩ F.slot_dict_repr (call_dict_reprK (as := []) (h₀ := s.heap) (d := 0) (g := []) h1 h2.1 h3 sys (fun z => nomatch z) hE hg (fun b _ => Clear.nil b) (by show X.A.units + 1 + (0 + 1) < cLine; omega) (fun _ _ z => z) (fun h' u tk hk => ⟨_, _, rfl, fin _ _ ⟨H1, I.kept (t' := tk) hk, Ex.refl hn.pot⟩⟩) hsz)
      | dic kvs =>
        obtain ⟨rfl, rfl⟩ := tx_dic ht
        cases r with
        | dic e n l =>
          cases l
          cases rx
          obtain ⟨sys, _, zs, pr, o, es, ep, h1, h2, h3, h4, _⟩ := dn_of (xs := []) I (.inr ⟨_, (hide_some e).2⟩) ⟨π, fun _ => false, [], .nil⟩
          have hz : es = #[] := by
            have q : zs = [] := by cases pr; rfl
            subst q
            exact Array.toList_eq_nil_iff.mp h4
          subst hz
          exact call_repr_slot (by omega) ⟨o, h1, h2.1⟩ F.slot_dict_repr (call_dict_reprK (as := []) (h₀ := s.heap) (d := 0) (ps := []) (g := []) h1 h2.1 h3 sys (fun z => nomatch z) .nil hg (fun b _ => Clear.nil b) (by show X.A.units + 1 + (0 + 1) < cLine; omega) (fun _ _ z => z) (fun h' u tk hk => ⟨_, _, rfl, fin _ _ ⟨H1, I.kept (t' := tk) hk, Ex.refl hn.pot⟩⟩) hsz)
      | ins c fs =>
        obtain ⟨C, fa, fd, ps, F, at_, O, G2, B, hF⟩ := hR c fs t ht
        have r0 := r
        cases r with
        | ins hc e n fs' =>
          have ec := at_.one hc
          subst ec
          cases rx
          have ha := (hide_some e).2
          obtain ⟨mA, M, _, _, _, _⟩ := ins_get I.hok ha
          obtain ⟨od, J, _⟩ := M.look
          obtain ⟨m, Fr0⟩ := I.fr
          have sp : ∀ (Q : VK) (E : XK), (∀ v H2, v = .str t → Ex π H1 H2 → Q v H2) → spD X.K X.prog X.w 1 F [.ref _] H1 Q E := fun Q E h => ⟨π, N, [_], hn, .cons r0 .nil, rfl, by rw [hF]; exact fun v H' e2 rv => h v H' (by cases rv; rfl) e2⟩
          refine PySem.W.repr_K (by show X.A.units + 1 < cLine; omega) Fr0 I.ok.mod.kin J O.at_ O.fn (wpAny_call (codeAny_mono (G2.run X.A.in1 X.stack s H1 ⟨[.ref _], []⟩ [.ref _] [.ref _] (fun v H2 => v = .str t ∧ Ex π H1 H2) E0 (hr.mono (by omega : k + 1 ≤ k + 8)).in1 I.env0.in1 (B s [.ref _] I.kIn (G2.len _ H1 (fun _ _ => True) E0 (sp _ _ fun _ _ _ _ => trivial))) (.cons rfl .nil) (sp _ _ fun v H2 z1 z2 => ⟨z1, z2⟩)) fun r s' hq2 => ?_))
          cases r with
          | error er => exact hq2.elim
          | ok fl =>
            cases fl with
            | ret u =>
              obtain ⟨v, H', I3, rv, ev, q⟩ := I.after hq2
              subst ev
              obtain ⟨tk, rfl⟩ := rv
              exact fin _ _ ⟨H', I3, q⟩
            | next => exact False.elim hq2
            | brk => exact False.elim hq2
            | cont => exact False.elim hq2
      | lst ds =>
        obtain ⟨ts, hs, rfl⟩ := tx_lst ht
        have r0 := r
        cases r with
        | lst e n l =>
          obtain ⟨as, lo, T⟩ := txs_run (σ := σ) hR hn f hs l
          cases rx
          refine call_listG (n := k + D.hgts ds) (hide_some e).2 n (fun z => ?_) T hg (hr.mono ?_) I.env0.frames hsz G fin
          · obtain ⟨d', r', ⟨t', h'⟩, l'⟩ := lo _ z
            have q := hgt_same f ht r0 r'
            rw [q] at l'
            exact absurd l' (Nat.not_succ_le_self _)
          · have : D.hgts ds + 1 ≤ 6 := b2
            omega
      | tup ds =>
        obtain ⟨ts, hs, rfl⟩ := tx_tup ht
        have go : ∀ (a : Addr) (vs : List V), v = .ref a → Rv X.K X.prog X.w π (Hide N H1) (.ref a) (.tup ds) → (∀ H, Ex π H1 H → SqT X.K H a vs) → RvL X.K X.prog X.w π (Hide N H1) vs ds → wpAny (model X.prog X.w) X.A (call (.builtin "repr") [v]) (EP X pins σ Q) X.xe s := fun a vs ev r0 hS l => by
          subst ev
          obtain ⟨as, lo, T⟩ := txs_run (σ := σ) hR hn f hs l
          refine call_tupG (n := k + D.hgts ds) hS (fun z => ?_) T hg (hr.mono ?_) I.env0.frames hsz G fin
          · obtain ⟨d', r', ⟨t', h'⟩, l'⟩ := lo _ z
            have q := hgt_same f ht r0 r'
            rw [q] at l'
            exact absurd l' (Nat.not_succ_le_self _)
          · have : D.hgts ds + 1 ≤ 6 := b2
            omega
        have r0 := r
        cases r with
        | tup e n l => cases rx; exact go _ _ rfl r0 (fun H x => .of (x.kp _ _ n (hide_some e).2)) l
        | tupK e l => cases rx; exact go _ _ rfl r0 (fun H _ => e H) l
    · exact False.elim h
  · exact False.elim h
theorem cs_reprR (hR : TxOk X k R) (hg : X.A.guards = some []) (hr : Room (k + 8) X.A) : CaSnd X (.builtin "repr") (bReprR R) := cs_reprV (hR.toV hr.hd) hg (roomV hr)
end
end Pd
namespace Pd
open PySem L2 PySem.Spec PyProof.Rows
/-- u == v gives True, asked under way -/
def EqW (X : Cx) (σ : L2.St) (π : Addr) (H0 : Hp) (n : Nat) (u v : Value) : Prop :=
  ∀ (A : Around) (pins : List (Addr × Obj)) (s : Shared) (E : Value → Shared → Prop) (Q : Bool → Shared → Prop), Room n A → A.frames = some X.stack → Goes X σ π H0 pins s → (∀ s', Goes X σ π H0 pins s' → Q true s') → wpAny (model X.prog X.w) A (eqBool u v) Q E s
/-- the rich comparison says b -/
def RcW (X : Cx) (σ : L2.St) (π : Addr) (H0 : Hp) (n : Nat) (op : CmpOp) (b : Bool) (u v : Value) : Prop :=
  ∀ (A : Around) (pins : List (Addr × Obj)) (s : Shared) (E : Value → Shared → Prop) (Q : Value → Shared → Prop), Room n A → A.frames = some X.stack → Goes X σ π H0 pins s → (∀ s', Goes X σ π H0 pins s' → Q (.bool b) s') → wpAny (model X.prog X.w) A (richCompare op u v) Q E s
/-- the items are alike, one by one -/
def EqsW (X : Cx) (σ : L2.St) (π : Addr) (H0 : Hp) (n : Nat) (xs ys : List V) : Prop :=
  xs.length = ys.length ∧ ∀ (i : Nat) (x y : V), xs[i]? = some x → ys[i]? = some y → ∀ u v, RelV x u → RelV y v → EqW X σ π H0 n u v
section
variable {X : Cx} {σ : L2.St} {π : Addr} {H0 : Hp} {n : Nat}
theorem EqW.mono {m n : Nat} {u v : Value} (h : EqW X σ π H0 m u v) (l : m ≤ n) : EqW X σ π H0 n u v := fun A pins s E Q hr => h A pins s E Q (hr.mono l)
theorem room_units {A : Around} (hr : Room n A) : A.units + 1 < cLine := by have := hr.un; omega
theorem RcW.eq {a b : Addr} (h : RcW X σ π H0 n .Eq true (.ref a) (.ref b)) : EqW X σ π H0 n (.ref a) (.ref b) := fun A pins s E Q hr hf G hQ => by
  by_cases e : a = b
  · subst e
    exact SeqAt.EqAt.same (A := A) (s := s) (.ref a) X.prog X.w E _ (hQ s G)
  · exact GQ.eqBool_refG e (h A pins s E _ hr hf G fun s' G' => ⟨true, rfl, hQ s' G'⟩)
theorem EqW.flat {x y : V} {u v : Value} (rx : RelV x u) (ry : RelV y v) (fx : flatV x = true) (fy : flatV y = true) (e : eqV x y = true) : EqW X σ π H0 n u v := fun A pins s E Q hr hf G hQ => by
  have q := eqAt_V (A := A) (s := s) rx ry fx fy
  rw [e] at q
  exact q X.prog X.w E _ (hQ s G)
/-- one turn of a loop over two runs of items -/
theorem EqsW.turn {xs ys : List V} {its its2 : List Value} {A : Around} {pins : List (Addr × Obj)} {E : Value → Shared → Prop} (T : EqsW X σ π H0 n xs ys) (hr : Room (n + 1) A) (hf : A.frames = some X.stack) (r : Vals xs its) (r2 : Vals ys its2) (i : Nat) (b1 : i < its.toArray.size) (b2 : i < its2.toArray.size) (s : Shared) (G : Goes X σ π H0 pins s) :
    wpAny (model X.prog X.w) A.in1 (eqBool its.toArray[i] its2.toArray[i]) (fun r s' => r = true ∧ Goes X σ π H0 pins s') E s := by
  have c1 : i < its.length := by simpa using b1
  have c2 : i < its2.length := by simpa using b2
  have k1 : i < xs.length := by rw [r.length]; exact c1
  have k2 : i < ys.length := by rw [r2.length]; exact c2
  obtain ⟨u, hu, ru⟩ := r.get (List.getElem?_eq_getElem k1)
  obtain ⟨v, hv, rv⟩ := r2.get (List.getElem?_eq_getElem k2)
  have e1 : its.toArray[i] = u := by
    have z : its[i]? = some its[i] := List.getElem?_eq_getElem c1
    rw [z] at hu
    simpa using Option.some.inj hu
  have e2 : its2.toArray[i] = v := by
    have z : its2[i]? = some its2[i] := List.getElem?_eq_getElem c2
    rw [z] at hv
    simpa using Option.some.inj hv
  rw [e1, e2]
  exact T.2 i _ _ (List.getElem?_eq_getElem k1) (List.getElem?_eq_getElem k2) u v ru rv A.in1 pins s E _ hr.in1 hf G fun s' G' => ⟨rfl, G'⟩
theorem listI_of {a b : Addr} {xs ys : List V} {A : Around} {pins : List (Addr × Obj)} {E : Value → Shared → Prop} (ha : H0 a = some (.lst xs)) (hap : a ≠ π) (hb : H0 b = some (.lst ys)) (hbp : b ≠ π) (T : EqsW X σ π H0 n xs ys) (hr : Room (n + 1) A) (hf : A.frames = some X.stack) :
    GQ.ListI X.prog X.w A E a b xs.length fun _ s => Goes X σ π H0 pins s := fun i s G => by
  obtain ⟨H, I, e⟩ := id G
  obtain ⟨z, its, m, r, g⟩ := I.hok a _ (e.kp a _ hap ha)
  obtain ⟨z2, its2, m2, r2, g2⟩ := I.hok b _ (e.kp b _ hbp hb)
  exact ⟨its.toArray, its2.toArray, m, m2, g, g2, by rw [List.size_toArray, ← r.length], by rw [List.size_toArray, ← r2.length, ← T.1], fun b1 b2 => T.turn hr hf r r2 i b1 b2 s G⟩
theorem RcW.list {a b : Addr} {xs ys : List V} (ha : H0 a = some (.lst xs)) (hap : a ≠ π) (hb : H0 b = some (.lst ys)) (hbp : b ≠ π) (T : EqsW X σ π H0 n xs ys) : RcW X σ π H0 (n + 1) .Eq true (.ref a) (.ref b) := fun A pins s E Q hr hf G hQ =>
  GQ.rc_listG (N := xs.length) (Nat.lt_of_succ_lt (room_units hr)) (fun _ s => Goes X σ π H0 pins s) (listI_of ha hap hb hbp T hr hf) (fun s' G' => hQ s' G') G
theorem RcW.tup {a b : Addr} {xs ys : List V} (hS : ∀ H, Ex π H0 H → SqT X.K H a xs) (hS2 : ∀ H, Ex π H0 H → SqT X.K H b ys) (T : EqsW X σ π H0 n xs ys) : RcW X σ π H0 (n + 1) .Eq true (.ref a) (.ref b) := fun A pins s E Q hr hf G hQ => by
  obtain ⟨H, I, e⟩ := id G
  obtain ⟨its, r, g, _⟩ := I.tuple (hS H e)
  obtain ⟨its2, r2, g2, _⟩ := I.tuple (hS2 H e)
  have hz : its.toArray.size = its2.toArray.size := by rw [List.size_toArray, List.size_toArray, ← r.length, ← r2.length]; exact T.1
  exact GQ.rc_tupG hz (Nat.lt_of_succ_lt (room_units hr)) (fun _ s => Goes X σ π H0 pins s) g g2 (fun i b1 b2 s' G' => T.turn hr hf r r2 i b1 b2 s' G') (fun s' G' => hQ s' G') G
/-- two instances, by their own == -/
theorem RcW.own {k : Nat} {C f a b dx dy : Addr} {fd : FuncData} {ps : List Str} {F : List D → T D} {fv gv : List (Str × V)} {N : Addr → Bool} {d d' : D} (O : CmpOwn X.K C .Eq f) (G : FnOk X.prog X.w X.K X.mg X.base CX0 k f fd ps (spD X.K X.prog X.w 2 F)) (hb : Binds X.K fd ps [])
    (hn : HN π N H0) (ha : H0 a = some (.ins C dx fv)) (hap : a ≠ π) (hb2 : H0 b = some (.ins C dy gv)) (hbp : b ≠ π) (r : Rv X.K X.prog X.w π (Hide N H0) (.ref a) d) (r2 : Rv X.K X.prog X.w π (Hide N H0) (.ref b) d') (hF : F [d, d'] = .ret (.bl true)) : RcW X σ π H0 k .Eq true (.ref a) (.ref b) := fun A pins s E Q hr hf ⟨H, I, e⟩ hQ => by
  obtain ⟨mA, M, _, _, _, _⟩ := ins_get I.hok (e.kp a _ hap ha)
  obtain ⟨mB, M2, _, _, _, _⟩ := ins_get I.hok (e.kp b _ hbp hb2)
  obtain ⟨od, J, _⟩ := M.look
  obtain ⟨od2, J2, _⟩ := M2.look
  obtain ⟨m, Fr0⟩ := I.fr
  have q1 : Rv X.K X.prog X.w π (Hide N H) (.ref a) d := r.mono e.kp.hide
  have q2 : Rv X.K X.prog X.w π (Hide N H) (.ref b) d' := r2.mono e.kp.hide
  have sp : ∀ (Q : VK) (E : XK), (∀ v H2, v = .bl true → Ex π H0 H2 → Q v H2) → spD X.K X.prog X.w 2 F [.ref a, .ref b] H Q E := fun Q E h => ⟨π, N, [d, d'], hn.ext e, .cons q1 (.cons q2 .nil), rfl, by rw [hF]; exact fun v H' e2 rv => h v H' (by cases rv; rfl) (e.trans e2)⟩
  refine PySem.W.cmp_K (Nat.lt_of_succ_lt (room_units hr)) Fr0 I.ok.mod.kin J J2.type O.self O.at_ O.fn ?_
  refine wpAny_call (codeAny_mono (G.run A X.stack s H ⟨[.ref a, .ref b], []⟩ [.ref a, .ref b] [.ref a, .ref b] (fun v H2 => v = .bl true ∧ Ex π H0 H2) E0 hr { I.env0 with frames := hf } (hb s [.ref a, .ref b] I.kIn (G.len _ H (fun _ _ => True) E0 (sp _ _ fun _ _ _ _ => trivial))) (.cons rfl (.cons rfl .nil)) (sp _ _ fun v H2 z1 z2 => ⟨z1, z2⟩)) fun r s' hq => ?_)
  cases r with
  | error er => exact hq.elim
  | ok fl =>
    cases fl with
    | ret u =>
      obtain ⟨v, H', I3, rv, ev, q⟩ := I.after hq
      subst ev
      cases rv
      exact hQ s' ⟨H', I3, q⟩
    | next => exact False.elim hq
    | brk => exact False.elim hq
    | cont => exact False.elim hq
end
end Pd
namespace Pd
open PySem L2 PySem.Spec PyProof.Rows
mutual
/-- alike; E: two instances -/
def D.same (E : D → D → Bool) : D → D → Bool
  | .non, d => match d with
    | .non => true
    | _ => false
  | .bl a, d => match d with
    | .bl b => a == b
    | _ => false
  | .int a, d => match d with
    | .int b => a == b
    | _ => false
  | .str a, d => match d with
    | .str b => a == b
    | _ => false
  | .tup xs, d => match d with
    | .tup ys => D.sames E xs ys
    | _ => false
  | .lst xs, d => match d with
    | .lst ys => D.sames E xs ys
    | _ => false
  | .ins c fs, d => match d with
    | .ins c2 gs => E (.ins c fs) (.ins c2 gs)
    | _ => false
  | .dic _, _ => false
  | .pot, _ => false
  | .fn _, _ => false
  | .rng _, _ => false
  | .dik _, _ => false
  | .clo _ _, _ => false
def D.sames (E : D → D → Bool) : List D → List D → Bool
  | [], ys => ys.isEmpty
  | x :: xs, ys => match ys with
    | y :: ys => D.same E x y && D.sames E xs ys
    | [] => false
end
/-- two instances by their class's own == (no own !=) -/
def SameOk (X : Cx) (k : Nat) (E : D → D → Bool) : Prop := ∀ (c c2 : Str) (fs gs : List (Str × D)), E (.ins c fs) (.ins c2 gs) = true → ∃ (C f : Addr) (fd : FuncData) (ps : List Str) (F : List D → T D), ClsAt X.K c C ∧ ClsAt X.K c2 C ∧ CmpOwn X.K C .Eq f ∧ FnOk X.prog X.w X.K X.mg X.base CX0 k f fd ps (spD X.K X.prog X.w 2 F) ∧ Binds X.K fd ps [] ∧ F [.ins c fs, .ins c2 gs] = .ret (.bl true) ∧
  PySem.W.findIn X.K (.ref C) "__ne__" = some (some (.builtin "object.__ne__")) ∧ PySem.W.mroIn X.K C (.type "object") = some true
section
variable {X : Cx} {σ : L2.St} {π : Addr} {H0 : Hp} {N : Addr → Bool} {n k : Nat} {E : D → D → Bool}
theorem tup_ex {v : V} {ds : List D} (r : Rv X.K X.prog X.w π (Hide N H0) v (.tup ds)) : ∃ a vs, v = .ref a ∧ (∀ H, Ex π H0 H → SqT X.K H a vs) ∧ RvL X.K X.prog X.w π (Hide N H0) vs ds := by
  cases r with
  | tup e n l => exact ⟨_, _, rfl, fun H x => .of (x.kp _ _ n (hide_some e).2), l⟩
  | tupK e l => exact ⟨_, _, rfl, fun H _ => e H, l⟩
end
end Pd
namespace Pd
open PySem L2 PySem.Spec PyProof.Rows
section
variable {prog : Program} {w : World} {A : Around} {E : Value → Shared → Prop} {s : Shared} {K : PySem.W.Frag} {x y C f : Addr} {ox : Obj} {od : Option Obj}
/-- object's own != of an instance: its ==, turned -/
theorem ne_entry {Q : Fin → Shared → Prop} (hu : A.units < cLine) (X : K.In s.heap) (J : PySem.W.InstAt s.heap x ox C od) (he : PySem.W.findIn K (.ref C) "__eq__" = some (some (.ref f))) (hf : PySem.W.isFn K (.ref f) = true)
    (h : wpAny (model prog w) A (call (.ref f) [.ref x, .ref y]) (fun v s' => ∃ b, v = .bool b ∧ Q (.done (.ret (.bool (!b)))) s') E s) : wpAny (model prog w) A (Builtin.«object.__ne__» ⟨[.ref x, .ref y], []⟩) Q E s := by
  unfold Builtin.«object.__ne__»
  repeat (first
    | with_reducible refine wpAny_cRoomFor hu ?_
    | (refine wpAny_bind (m := callSpecialIfBound? (.ref x) (Str.ofString "__eq__") [.ref y]) (PySem.W.ifBound_K X J he hf (wpAny_mono h (fun r s' z => by
        obtain ⟨b, rfl, q⟩ := z
        repeat (first | exact q | exact wpAny_pure q | exact wpAny_truthy_bool q | (refine wpAny_bind (m := truthy (.bool _)) (wpAny_truthy_bool ?_)) | wp_step)) fun _ _ z => z)))
    | wp_step)
theorem bound_ne {args : List Value} {Q : Option Value → Shared → Prop} {M : Model} (X : K.In s.heap) (J : PySem.W.InstAt s.heap x ox C od) (hs : PySem.W.findIn K (.ref C) "__ne__" = some (some (.builtin "object.__ne__")))
    (h : wpAny M A (call (.builtin "object.__ne__") (.ref x :: args)) (fun v => Q (some v)) E s) : wpAny M A (callSpecialIfBound? (.ref x) "__ne__" args) Q E s := by
  have fin : wpAny M A (call (.builtin "object.__ne__") ([.ref x] ++ args) >>= fun v => pure (some v)) Q E s := wpAny_bind (wpAny_mono h (fun v s' z => wpAny_pure z) fun _ _ z => z)
  simp only [callSpecialIfBound?, bindSpecialIfBound?]
  refine wpAny_holding (wpAny_bind (wpAny_bind (wpAny_bind (J.type.here ((PySem.W.looks_findIn X hs).here ?_)))))
  refine wpAny_bind (wpAny_askSetting (wpAny_ite ?_))
  split
  · exact wpAny_bind (wpAny_of_eq (F.cmp_object.ne.bind _) (wpAny_pure (by exact fin)))
  · exact wpAny_tryCatch (wpAny_bind (wpAny_of_eq (F.cmp_object.ne.bind _) (wpAny_pure (by exact fin))))
theorem rc_neIns {Q : Value → Shared → Prop} {oy : Obj} {ody : Option Obj} (hu : A.units + 1 < cLine) (X : K.In s.heap) (J : PySem.W.InstAt s.heap x ox C od) (J2 : PySem.W.InstAt s.heap y oy C ody) (hm : PySem.W.mroIn K C (.type "object") = some true) (hs : PySem.W.findIn K (.ref C) "__ne__" = some (some (.builtin "object.__ne__")))
    (he : PySem.W.findIn K (.ref C) "__eq__" = some (some (.ref f))) (hf : PySem.W.isFn K (.ref f) = true) (h : wpAny (model prog w) A.in1 (call (.ref f) [.ref x, .ref y]) (fun v s' => ∃ b, v = .bool b ∧ Q (.bool (!b)) s') E s) :
    wpAny (model prog w) A (richCompare .NotEq (.ref x) (.ref y)) Q E s := by
  have one : wpAny (model prog w) A (tryCompare (.ref x) "__ne__" (.ref y)) (fun r s' => ∃ b, r = some (.bool b) ∧ Q (.bool b) s') E s := by
    unfold tryCompare
    refine wpAny_bind (bound_ne X J hs (wpAny_call (codeAny_call_builtin F.cmp_object.ne.plain F.cmpEntry_ne (PySem.W.check_slot F.cmpKind_ne F.cmpSplit_ne (J.type.andThen (PySem.W.looks_mroIn X hm)) (F.cmpArgs_ne _ _) ?_))))
    refine ne_entry (A := A.in1) hu X J he hf (wpAny_mono h (fun v s' z => ?_) fun _ _ z => z)
    obtain ⟨b, rfl, q⟩ := z
    first | exact ⟨b, rfl, wpAny_pure ⟨_, rfl, q⟩⟩ | exact ⟨b, rfl, wpAny_pure (wpAny_pure ⟨_, rfl, q⟩)⟩
  simp only [richCompare, cmpInfo_NotEq, oneThing_ref]
  refine wpAny_holding (wpAny_bind (wpAny_cRoomFor (Nat.lt_of_succ_lt hu) ?_))
  refine wpAny_bind (J.type.here (wpAny_bind (J2.type.here ?_)))
  rw [show (Value.ref C != Value.ref C) = false from by simp]
  simp only [Bool.false_eq_true, if_false]
  refine wpAny_bind (wpAny_pure ?_)
  simp only [Bool.false_eq_true, if_false]
  refine wpAny_bind (m := tryCompare (.ref x) _ (.ref y)) (wpAny_mono one (fun r s1 z => ?_) fun _ _ z => z)
  obtain ⟨b, rfl, q⟩ := z
  exact wpAny_pure q
end
section
variable {X : Cx} {k : Nat} {E : D → D → Bool}
def isBig : D → Bool
  | .tup _ => true
  | .lst _ => true
  | .ins _ _ => true
  | _ => false
end
end Pd
namespace Pd
open PySem L2 PySem.Spec PyProof.Rows
/-- == and != : texts and numbers by themselves, all else as data -/
def opEqF : D → D → T D
  | .str x, .str y => .ret (.bl (decide (x = y)))
  | .int i, .int j => .ret (.bl (decide (i = j)))
  | x, y => opEq x y
def opNeF : D → D → T D
  | .str x, .str y => .ret (.bl (!decide (x = y)))
  | .int i, .int j => .ret (.bl (!decide (i = j)))
  | x, y => opNe x y
section
variable {X : Cx}
theorem dec_V_str {x y : Str} : decide (V.str x = V.str y) = decide (x = y) := by
  rw [Bool.eq_iff_iff]
  simp
theorem dec_V_int {x y : Int} : decide (V.int x = V.int y) = decide (x = y) := by
  rw [Bool.eq_iff_iff]
  simp
theorem os_eqF (hu : X.A.units + 64 < cLine) : OpSnd X (compareOp .Eq) opEqF := fun {π N H x y dx dy Q} hn rx ry h => by
  unfold opEqF at h
  split at h
  · cases rx; cases ry
    exact ⟨_, L2.op_eq, rfl, by rw [dec_V_str]; exact h _ _ (Ex.refl hn.pot) (.bl _)⟩
  · cases rx; cases ry
    exact ⟨_, L2.op_eq, rfl, by rw [dec_V_int]; exact h _ _ (Ex.refl hn.pot) (.bl _)⟩
  · exact os_eq hu hn rx ry h
theorem os_neF (hu : X.A.units + 64 < cLine) : OpSnd X (compareOp .NotEq) opNeF := fun {π N H x y dx dy Q} hn rx ry h => by
  unfold opNeF at h
  split at h
  · cases rx; cases ry
    exact ⟨_, L2.op_ne, rfl, by rw [dec_V_str]; exact h _ _ (Ex.refl hn.pot) (.bl _)⟩
  · cases rx; cases ry
    exact ⟨_, L2.op_ne, rfl, by rw [dec_V_int]; exact h _ _ (Ex.refl hn.pot) (.bl _)⟩
  · exact os_ne hu hn rx ry h
end
/-- an instance's text by its own method, ahead of a body -/
def TxP (P : Program) (w : World) (K : PySem.W.Frag) (mg : Str → Option Value) (base : Heap) (k : Nat) (R : D → Option Str) : Prop := ∀ (c : Str) (fs : List (Str × D)) (t : Str), R (.ins c fs) = some t → ∃ (C f : Addr) (fd : FuncData) (ps : List Str) (F : List D → T D), ClsAt K c C ∧ OwnTxt K C "__repr__" f ∧ FnOk P w K mg base CX0 k f fd ps (spD K P w 1 F) ∧ Binds K fd ps [] ∧ F [.ins c fs] = .ret (.str t)
theorem TxP.ok {X : Cx} {k : Nat} {R : D → Option Str} (h : TxP X.prog X.w X.K X.mg X.base k R) : TxOk X k R := h
/-- the text of one class's instances -/
def rOne (c0 : Str) (F : List D → T D) : D → Option Str
  | .ins c fs => cond (c == c0) (match F [.ins c fs] with
    | .ret (.str t) => some t
    | _ => none) none
  | _ => none
theorem TxP.of {P : Program} {w : World} {K : PySem.W.Frag} {mg : Str → Option Value} {base : Heap} {k : Nat} {c0 : Str} {F : List D → T D} (h : PmT P w K mg base c0 "__repr__" k F) : TxP P w K mg base k (rOne c0 F) := fun c fs t ht => by
  obtain ⟨C, f, fd, ps, at_, O, G, B⟩ := h
  unfold rOne at ht
  dsimp only at ht
  cases e : c == c0 with
  | false => rw [e] at ht; cases ht
  | true =>
    rw [e] at ht
    have ec : c = c0 := by simpa using e
    subst ec
    refine ⟨C, f, fd, ps, F, at_, O, G, B, ?_⟩
    dsimp only [cond] at ht
    split at ht
    · rename_i z
      cases ht
      exact z
    · cases ht
end Pd
namespace Pd
open PySem L2 PySem.Spec PyProof.Rows
theorem tupleText_le (ts : List Str) : (tupleText ts).length ≤ piled ts + 2 := by
  unfold tupleText
  rw [strLen_append, strLen_append]
  have e1 : ((("(" : String) : Str)).length = 1 := rfl
  have e3 : (((if ts.length == 1 then ",)" else ")" : String) : Str)).length ≤ 2 := by split <;> decide
  cases ts with
  | nil =>
    have e4 : (Str.join ", " []).length = 0 := rfl
    have e5 : (((if ([] : List Str).length == 1 then ",)" else ")" : String) : Str)).length = 1 := rfl
    rw [e1, e4, e5, piled_nil]
    decide
  | cons t ts =>
    have := join_length_add (t :: ts) (by simp)
    omega
theorem listText_le (ts : List Str) : (listText ts).length ≤ piled ts + 2 := by
  unfold listText
  rw [strLen_append]
  have e2 : ((("]" : String) : Str)).length = 1 := rfl
  have e1 : ((("[" : String) : Str)).length = 1 := rfl
  cases ts with
  | nil => rw [e2]; show 1 + 1 ≤ _; rw [piled_nil]; decide
  | cons t ts =>
    have h : textFrom 0 "[" (t :: ts) = textFrom 1 (("[" : Str) ++ ("" : String) ++ t) ts := rfl
    rw [h, textFrom_length_pos _ _ _ (by decide), strLen_append, strLen_append, e1, e2, piled_cons]
    have e0 : ((("" : String) : Str)).length = 0 := rfl
    omega
/-- the text of v stands, is no longer than n; v is no deeper than h -/
def GT (R : D → Option Str) (h n : Nat) (v : D) : Prop := ∃ t, D.tx R v = some t ∧ t.length ≤ n ∧ D.hgt v ≤ h
theorem GT.mono {R : D → Option Str} {h n h2 n2 : Nat} {v : D} (g : GT R h n v) (a : h ≤ h2) (b : n ≤ n2) : GT R h2 n2 v := let ⟨t, x, y, z⟩ := g; ⟨t, x, Nat.le_trans y b, Nat.le_trans z a⟩
theorem GTs {R : D → Option Str} {h n : Nat} : ∀ {ds : List D}, (∀ d ∈ ds, GT R h n d) → ∃ ts, D.txs R ds = some ts ∧ piled ts ≤ ds.length * (n + 2) ∧ D.hgts ds ≤ h
  | [], _ => ⟨[], rfl, by simp [piled_nil], Nat.zero_le _⟩
  | d :: ds, g => by
    obtain ⟨t, x, y, z⟩ := g d (List.mem_cons_self ..)
    obtain ⟨ts, xs, ys, zs⟩ := GTs (ds := ds) fun e he => g e (List.mem_cons_of_mem _ he)
    refine ⟨t :: ts, ?_, ?_, Nat.max_le.mpr ⟨z, zs⟩⟩
    · unfold D.txs
      rw [x, xs]
    · rw [piled_cons, List.length_cons, Nat.succ_mul]
      omega
theorem GT.tup {R : D → Option Str} {h n : Nat} {ds : List D} (g : ∀ d ∈ ds, GT R h n d) : GT R (h + 1) (ds.length * (n + 2) + 2) (.tup ds) := by
  obtain ⟨ts, x, y, z⟩ := GTs g
  refine ⟨tupleText ts, ?_, Nat.le_trans (tupleText_le ts) (by omega), Nat.succ_le_succ z⟩
  unfold D.tx
  rw [x]
theorem GT.lst {R : D → Option Str} {h n : Nat} {ds : List D} (g : ∀ d ∈ ds, GT R h n d) : GT R (h + 1) (ds.length * (n + 2) + 2) (.lst ds) := by
  obtain ⟨ts, x, y, z⟩ := GTs g
  refine ⟨listText ts, ?_, Nat.le_trans (listText_le ts) (by omega), Nat.succ_le_succ z⟩
  unfold D.tx
  rw [x]
theorem repr_val {R : D → Option Str} {h n : Nat} {v : D} (g : GT R h n v) (a : h ≤ 6) (b : n ≤ 100000) : ∃ t, bReprR R [v] = .ret (.str t) ∧ t.length ≤ 100000 := by
  obtain ⟨t, x, y, z⟩ := g
  refine ⟨t, ?_, Nat.le_trans y b⟩
  unfold bReprR
  dsimp only
  rw [x]
  dsimp only
  rw [decide_eq_true (Nat.le_trans z a), decide_eq_true (Nat.le_trans y b)]
  rfl
theorem compT_map {i : Nat} {me : Rho → T D} {ρ : Rho} {f : D → D} : ∀ {ds acc : List D}, acc.length + ds.length ≤ 100000 → (∀ d ∈ ds, me (ρ.set i (.val d)) = .ret (f d)) → compT (gNm i) yesT me ρ ds acc = .ret (acc ++ ds.map f)
  | [], acc, _, _ => by unfold compT; simp
  | d :: ds, acc, hl, h => by
    have c : small acc = true := decide_eq_true (by rw [List.length_cons] at hl; omega)
    have e : compT (gNm i) yesT me ρ (d :: ds) acc = (me (ρ.set i (.val d))).bind fun y => cond (small acc) (compT (gNm i) yesT me ρ ds (acc ++ [y])) .fail := rfl
    rw [e, h d (List.mem_cons_self ..)]
    show cond (small acc) _ _ = _
    rw [c]
    show compT (gNm i) yesT me ρ ds (acc ++ [f d]) = _
    rw [compT_map (by rw [List.length_append, List.length_cons, List.length_nil]; rw [List.length_cons] at hl; omega) fun e he => h e (List.mem_cons_of_mem _ he)]
    rw [List.append_assoc]
    rfl
theorem bools_map {p : D → Bool} : ∀ ds : List D, bools (ds.map fun d => .bl (p d)) = some (ds.map p)
  | [] => rfl
  | d :: ds => by
    show (match bools (ds.map fun d => .bl (p d)) with | some bs => some (p d :: bs) | none => none) = _
    rw [bools_map ds]
    rfl
theorem all_val {p : D → Bool} (ds : List D) : bAll [.lst (ds.map fun d => .bl (p d))] = .ret (.bl (ds.all p)) := by
  unfold bAll
  dsimp only
  rw [bools_map]
  dsimp only
  rw [List.all_map]
  rfl
theorem seq_nx {m1 m2 : Rho → T Out} {ρ : Rho} {P : Out → Prop} (h : (m1 ρ).all fun o => ∃ ρ', o = .nx ρ' ∧ (m2 ρ').all P) : (bSeq m1 m2 ρ).all P :=
  T.all_bind.mpr (T.all_mono (fun o ho => by obtain ⟨ρ', rfl, h⟩ := ho; exact h) h)
end Pd
namespace Pd
open PySem L2 PySem.Spec PyProof.Rows
def iSq (i : Nat) : Rho → T (List D) := fun ρ => match ρ[i]? with
  | some (.val (.lst ds)) => .ret ds
  | some (.val (.tup ds)) => .ret ds
  | _ => .fail
section
variable {X : Cx} {tg : Expr}
theorem si_sq (i : Nat) {x : Str} {pos : Pos} (hN : X.N[i]? = some x := by rfl) (hv : Vis X.env.scope x := by first | exact Or.inl rfl | exact Or.inr (Or.inl rfl) | exact Or.inr (Or.inr rfl)) (hd : (x == ("__debug__" : Str)) = false := by decide)
    (hcd : (x == ("__classdict__" : Str)) = false := by decide) : SndI X tg (.Name x pos) (iSq i) := fun {π N0 H0 N H σ ρ R} I h => by
  unfold iSq at h
  split at h
  · rename_i ds e
    refine si_list (m := eVar i) (sv i hN hv hd hcd) I ?_
    unfold iLst eVar
    rw [e]
    exact h
  · rename_i ds e
    refine si_tup (m := eVar i) (sv i hN hv hd hcd) I ?_
    unfold iTp eVar
    rw [e]
    exact h
  · exact False.elim h
/-- where the one reads, or else the other -/
def opOr (f g : D → D → T D) (p : D → D → Bool) : D → D → T D := fun x y => cond (p x y) (f x y) (g x y)
theorem os_or {op : Value → Value → Sem Value} {f g : D → D → T D} {p : D → D → Bool} (hf : OpSnd X op f) (hg : OpSnd X op g) : OpSnd X op (opOr f g p) := fun {π N H x y dx dy Q} hn rx ry h => by
  unfold opOr at h
  cases e : p dx dy with
  | true => rw [e] at h; exact hf hn rx ry h
  | false => rw [e] at h; exact hg hn rx ry h
end
/-- two instances by their class's own == -/
def SmP (P : Program) (w : World) (K : PySem.W.Frag) (mg : Str → Option Value) (base : Heap) (k : Nat) (E : D → D → Bool) : Prop := ∀ (c c2 : Str) (fs gs : List (Str × D)), E (.ins c fs) (.ins c2 gs) = true → ∃ (C f : Addr) (fd : FuncData) (ps : List Str) (F : List D → T D), ClsAt K c C ∧ ClsAt K c2 C ∧ CmpOwn K C .Eq f ∧ FnOk P w K mg base CX0 k f fd ps (spD K P w 2 F) ∧ Binds K fd ps [] ∧ F [.ins c fs, .ins c2 gs] = .ret (.bl true) ∧
  PySem.W.findIn K (.ref C) "__ne__" = some (some (.builtin "object.__ne__")) ∧ PySem.W.mroIn K C (.type "object") = some true
theorem SmP.ok {X : Cx} {k : Nat} {E : D → D → Bool} (h : SmP X.prog X.w X.K X.mg X.base k E) : SameOk X k E := h
/-- alike by one class's == -/
def eOne (c0 : Str) (F : List D → T D) (x y : D) : Bool := match x, y with
  | .ins c fs, .ins c2 gs => c == c0 && c2 == c0 && (match F [.ins c fs, .ins c2 gs] with
    | .ret (.bl true) => true
    | _ => false)
  | _, _ => false
theorem SmP.of {P : Program} {w : World} {K : PySem.W.Frag} {mg : Str → Option Value} {base : Heap} {k : Nat} {c0 : Str} {F : List D → T D} (h : PmE P w K mg base c0 .Eq k F) (h1 : ∀ C, ClsAt K c0 C → PySem.W.findIn K (.ref C) "__ne__" = some (some (.builtin "object.__ne__")) ∧ PySem.W.mroIn K C (.type "object") = some true) : SmP P w K mg base k (eOne c0 F) := fun c c2 fs gs ht => by
  obtain ⟨C, f, fd, ps, at_, O, G, B⟩ := h
  unfold eOne at ht
  simp only [Bool.and_eq_true, beq_iff_eq] at ht
  obtain ⟨⟨e1, e2⟩, e3⟩ := ht
  subst e1
  subst e2
  refine ⟨C, f, fd, ps, F, at_, at_, O, G, B, ?_, (h1 C at_).1, (h1 C at_).2⟩
  split at e3
  · assumption
  · cases e3
end Pd
namespace Pd
open PySem L2 PySem.Spec PyProof.Rows
section
variable {X : Cx} {e : Expr} {m : Rho → T D} {pos : Pos}
/-- isinstance(e, the class), by promise -/
def IcP (K : PySem.W.Frag) (mg : Str → Option Value) (c : Str) : Prop := ∃ C, ClsAt K c C ∧ ClsTy K C ∧ mg c = some (.ref C)
end
end Pd
namespace Pd
open PySem L2 PySem.Spec PyProof.Rows
/-- a new list is given -/
def spR (K : PySem.W.Frag) (P : Program) (w : World) (n : Nat) (F : List D → T (List D)) : Sp := fun vs H Q _ => ∃ (π : Addr) (N : Addr → Bool) (ds : List D), HN π N H ∧ RvL K P w π (Hide N H) vs ds ∧ vs.length = n ∧
  (F ds).all fun es => ∀ l us H', Ex π H H' → H l = none → H' l = some (.lst us) → RvL K P w π (Hide (plus N l) H') us es → Q (.ref l) H'
/-- the list as a value -/
def asD (F : List D → T (List D)) : List D → T D := fun ds => (F ds).bind fun es => .ret (.lst es)
theorem spR_of {K : PySem.W.Frag} {P : Program} {w : World} {n : Nat} {F : List D → T (List D)} : ∀ vs H Q E, spD K P w n (asD F) vs H Q E → spR K P w n F vs H Q E := fun vs H Q E ⟨π, N, ds, hn, r, hl, h⟩ =>
  ⟨π, N, ds, hn, r, hl, T.all_mono (fun es he l us H' e h1 h2 r2 => he (.ref l) H' e (.lst (by rw [hide_in (hn.new h1)]; exact h2) (hn.pot.ne h1) (r2.mono (Kp.less fun a h => plus_old h)))) (T.all_bind.mp h)⟩
def runL (n : Nat) (ml : Rho → T (List D)) : List D → T (List D) := fun ds => ml (ds.map Ent.val ++ List.replicate (n - ds.length) Ent.un)
section
variable (X : Cx)
/-- statements, the last of which gives a new list -/
def SndBL (sts : List Stmt) (ml : Rho → T (List D)) : Prop := ∀ ⦃π : Addr⦄ ⦃N0 : Addr → Bool⦄ ⦃H0 : Hp⦄ ⦃N : Addr → Bool⦄ ⦃H : Hp⦄ ⦃σ : L2.St⦄ ⦃ρ : Rho⦄ ⦃De : Ends⦄, EnvOk X.K X.prog X.w π N0 H0 N H σ ρ →
  (ml ρ).all (fun es => ∀ l us H', Ex π H0 H' → H0 l = none → H' l = some (.lst us) → RvL X.K X.prog X.w π (Hide (plus N0 l) H') us es → De.rt (.ref l) H') → wpSs X sts De σ H
end
section
variable {X : Cx} {st : Stmt} {sts rest : List Stmt} {e : Expr} {es : List Expr} {m : Rho → T Out} {ml : Rho → T (List D)} {pos : Pos}
theorem EnvOk.newAt {K : PySem.W.Frag} {P : Program} {w : World} {π : Addr} {N0 N : Addr → Bool} {H0 H : Hp} {σ : L2.St} {ρ : Rho} {l : Addr} (I : EnvOk K P w π N0 H0 N H σ ρ) (h : H l = none) : H0 l = none := by
  cases c : H0 l with
  | none => rfl
  | some o => rw [I.ex l o (I.hn.pot.ne h) c] at h; cases h
theorem bl_ret (he : SndL X e ml) : SndBL X [.Return (some e) pos] ml := fun {π N0 H0 N H σ ρ De} I h =>
  ⟨_, pss_one (ps_ret pe_wp), he I (T.all_mono (fun ds hd => by
    intro l vs H2 e2 hl h2 r
    refine hd l vs H2 ⟨I.ex.trans e2.kp, e2.pot⟩ (I.newAt hl) h2 (r.mono (Kp.less fun a ha => ?_))
    rcases plus_or ha with z | z
    · exact plus_old (I.sub a z)
    · rw [z]; exact plus_self) h)⟩
end
section
variable {P : Program} {w : World} {K : PySem.W.Frag} {mg : Str → Option Value} {base : Heap}
/-- a def that gives a new list, by its body's reading -/
theorem fnL_ok {x qual : Str} {st : Stmt} {f : Addr} {fd : FuncData} {Nm ps : List Str} {k n p : Nat} {ml : Rho → T (List D)} {G : List D → T (List D)} (F : Fun K x qual st f fd) (S : FnScope Nm ps (defScope st)) (hn : Nm.length = n) (hp : ps.length = p) (hG : G = runL n ml)
    (hb : ∀ (cdv : Value) (A : Around) (outer : List Env) (s : Shared) (H : Hp) (E : XK), Room k (A.deeper (PyProof.Rows.envOfC qual (defScope st) s.heap.objs.size f cdv)) → SndBL (cxOf CX0 P w K mg base Nm qual (defScope st) f cdv A outer s H E).nox (defBody st) ml) :
    FnOk P w K mg base CX0 (k + 1) f fd ps (spR K P w p G) := by
  subst hn hp hG
  refine F.ok S (fun vs H Q E h => ?_) (fun cdv A outer s H vs Q E hr h => ?_)
  · obtain ⟨π, N, ds, hn, r, hl, _⟩ := h
    exact hl
  · obtain ⟨π, N, ds, hn, r, hl, hall⟩ := h
    exact hb cdv A outer s H E hr (env_start hn r) hall
end
end Pd
namespace Pd
open PySem L2 PySem.Spec PyProof.Rows
/-- xs, ys = two new lists -/
def sParLL (i j : Nat) (ml mk : Rho → T (List D)) : Rho → T Out := fun ρ => (ml ρ).bind fun ds => (mk ρ).bind fun es => .ret (.nx ((ρ.set i (.own ds)).set j (.own es)))
section
variable {X : Cx} {a b : Expr} {ma mb : Rho → T D} {ml mk : Rho → T (List D)} {pos : Pos}
theorem ss_parLL {i j : Nat} {x y : Str} {px py pt : Pos} {kt k2 pt2} (hc : X.calm = true) (hN : X.N.Nodup) (ha : SndL X a ml) (hb : SndL X b mk) (hij : i ≠ j := by decide) (hi : X.N[i]? = some x := by rfl) (hj : X.N[j]? = some y := by rfl)
    (hx : X.env.scope.names.lookup x = some .local := by rfl) (hy : X.env.scope.names.lookup y = some .local := by rfl)
    (hw : swappedStores [.Tuple [.Name x px, .Name y py] kt pt] (.Tuple [a, b] k2 pt2) X.env = pure (some [x, y]) := by rfl)
    (hs : swapsWithSole [.Tuple [.Name x px, .Name y py] kt pt] (.Tuple [a, b] k2 pt2) pos.line X.env = pure false := by rfl) (he : starEach [a, b] X.env = (false, eval a X.env) :: starEach [b] X.env := by rfl) (he2 : starEach [b] X.env = (false, eval b X.env) :: starEach [] X.env := by rfl) :
    SndS X (.Assign [.Tuple [.Name x px, .Name y py] kt pt] (.Tuple [a, b] k2 pt2) pos) (sParLL i j ml mk) := fun {π N0 H0 N H σ ρ De} I h => ⟨_, ps_par hc hN hi hj hij hx hy (pa_cons pe_wp (pa_cons pe_wp pa_nil he2) he) hw hs, by
  refine ha I (T.all_mono (fun ds hds => ?_) (T.all_bind.mp h))
  intro l vs H1 e1 hl h1 r1
  refine hb (I.hideNew e1 hl h1 ⟨ds, r1⟩) (T.all_mono (fun es hes => ?_) (T.all_bind.mp hds))
  intro l2 us H2 e2 hl2 h2 r2
  exact ⟨.ref l, .ref l2, rfl, hes _ _ _ ((I.newOwn (x := .own ds) e1 hl h1 ⟨vs, rfl, r1⟩).newOwn (x := .own es) e2 hl2 h2 ⟨us, rfl, r2⟩)⟩⟩
end
end Pd
namespace Pd
open PySem L2 PySem.Spec PyProof.Rows
theorem RvF.add {K : PySem.W.Frag} {P : Program} {w : World} {π : Addr} {H : Hp} {f : Str} {v : V} {d : D} : ∀ {ds : List (Str × D)} {vs : List (Str × V)}, RvF K P w π H vs ds → fieldD f ds = none → Rv K P w π H v d → RvF K P w π H (putF f v vs) (ds ++ [(f, d)])
  | [], _, .nil, _, r => .cons r .nil
  | (g, dg) :: ds, (_, vg) :: vs, .cons rg t, h, r => by
    unfold fieldD at h
    have ne : ¬ g = f := fun z => by
      subst z
      simp at h
    have h' : fieldD f ds = none := by
      have e : (f == g) = false := beq_false_of_ne fun z => ne z.symm
      have e' : (g == f) = false := beq_false_of_ne ne
      simpa [e, e'] using h
    show RvF K P w π H (if g = f then (g, v) :: vs else (g, vg) :: putF f v vs) ((g, dg) :: (ds ++ [(f, d)]))
    rw [if_neg ne]
    exact .cons rg (t.add h' r)
abbrev MI : Type := Rho → List (Str × D) → T (List (Str × D))
def iNil : MI := fun _ fs => .ret fs
def iChk (m : Rho → T D) (k : MI) : MI := fun ρ fs => (m ρ).bind fun _ => k ρ fs
def iIf (mt : Rho → T Bool) (k : MI) : MI := fun ρ fs => (mt ρ).bind fun b => cond b .fail (k ρ fs)
def iFld (f : Str) (m : Rho → T D) (k : MI) : MI := fun ρ fs => (m ρ).bind fun d => cond ((fieldD f fs).isNone && decide (fs.length < 100)) (k ρ (fs ++ [(f, d)])) .fail
section
variable (X : Cx)
/-- the rest of an `__init__`: slot 0 is the new object, whose attributes so far are known -/
def SndIn (c0 : Str) (sts : List Stmt) (k : MI) : Prop := ∀ ⦃π : Addr⦄ ⦃N0 : Addr → Bool⦄ ⦃H0 : Hp⦄ ⦃N : Addr → Bool⦄ ⦃H : Hp⦄ ⦃σ : L2.St⦄ ⦃ρ : Rho⦄ ⦃De : Ends⦄ ⦃x C dx : Addr⦄ ⦃fv : List (Str × V)⦄ ⦃fs : List (Str × D)⦄, EnvOk X.K X.prog X.w π N0 H0 N H σ ρ → σ[0]? = some (some (.ref x)) → N x = true → N0 x = false →
  (∀ (j : Nat) (f : Ent), ρ[j]? = some f → f.isOwn = false) → Cls X.K C → ClsAt X.K c0 C → H x = some (.ins C dx fv) → RvF X.K X.prog X.w π (Hide N H) fv fs →
  (k ρ fs).all (fun gs => ∀ (H' : Hp) (gv : List (Str × V)), (∀ a o, a ≠ π → a ≠ x → H a = some o → H' a = some o) → PotOk H' π → H' x = some (.ins C dx gv) → RvF X.K X.prog X.w π (Hide N H') gv gs → ∀ σ', De.nx σ' H') → wpSs X sts De σ H
end
section
variable {X : Cx} {c0 : Str} {rest bd : List Stmt} {e c : Expr} {m : Rho → T D} {mt : Rho → T Bool} {k : MI} {pos : Pos}
theorem in_nil : SndIn X c0 [] iNil := fun {π N0 H0 N H σ ρ De x C dx fv fs} I h0 hx n0 own cl at0 hH rf q => ⟨_, pss_nil, q H fv (fun a o _ _ h => h) I.hn.pot hH rf _⟩
theorem in_chk (he : Snd X e m) (hr : SndIn X c0 rest k) (hs : swapsWith e none pos.line X.env = pure false := by rfl) : SndIn X c0 (.Expr e pos :: rest) (iChk m k) := fun {π N0 H0 N H σ ρ De x C dx fv fs} I h0 hx n0 own cl at0 hH rf q =>
  ⟨_, pss_cons (ps_expr pe_wp hs) pss_wp, he I (T.all_mono (fun d hd => by
    intro v H2 e2 r
    have xp := N_ne I.hn hx
    refine hr (I.ext e2) h0 hx n0 own cl at0 (e2.kp x _ xp hH) (rf.mono e2.kp.hide) (T.all_mono (fun gs g H' gv a b c d => g H' gv (fun y o y1 y2 z => a y o y1 y2 (e2.kp y o y1 z)) b c d) hd)) (T.all_bind.mp q))⟩
theorem in_if (hc : SndT X c mt) (hr : SndIn X c0 rest k) : SndIn X c0 (.If c bd [] pos :: rest) (iIf mt k) := fun {π N0 H0 N H σ ρ De x C dx fv fs} I h0 hx n0 own cl at0 hH rf q =>
  ⟨_, pss_cons (ps_if pt_wp pss_wp pss_nil) pss_wp, hc I (T.all_mono (fun b hb H2 e2 => by
    cases b with
    | true => exact False.elim hb
    | false =>
      have xp := N_ne I.hn hx
      exact iteF (hr (I.ext e2) h0 hx n0 own cl at0 (e2.kp x _ xp hH) (rf.mono e2.kp.hide) (T.all_mono (fun gs g H' gv a b c d => g H' gv (fun y o y1 y2 z => a y o y1 y2 (e2.kp y o y1 z)) b c d) hb))) (T.all_bind.mp q))⟩
theorem in_fld {f x0 : Str} {p pos' : Pos} (he : Snd X e m) (hr : SndIn X c0 rest k) (no : ∀ C, ClsAt X.K c0 C → NoAttr X.K C f) (hN : X.N[0]? = some x0 := by rfl) (hv : Vis X.env.scope x0 := by first | exact Or.inl rfl | exact Or.inr (Or.inl rfl) | exact Or.inr (Or.inr rfl)) (hd : (x0 == ("__debug__" : Str)) = false := by decide)
    (hcd : (x0 == ("__classdict__" : Str)) = false := by decide) (hs : swapsWith e (some (.Attribute (.Name x0 p) f pos')) pos.line X.env = pure false := by rfl) : SndIn X c0 (.Assign [.Attribute (.Name x0 p) f pos'] e pos :: rest) (iFld f m k) := fun {π N0 H0 N H σ ρ De x C dx fv fs} I h0 hx n0 own cl at0 hH rf q =>
  ⟨_, pss_cons (ps_fld (pe_var hN hv hd hcd) pe_wp hs) pss_wp, he I (T.all_mono (fun d hd => by
    intro v H2 e2 r
    obtain ⟨hb, hd⟩ := cond_all hd
    simp only [Bool.and_eq_true, Option.isNone_iff_eq_none, decide_eq_true_eq] at hb
    have xp := N_ne I.hn hx
    have hx2 := e2.kp x _ xp hH
    have rf2 := rf.mono e2.kp.hide
    have hide : ∀ o, Hide N (upd H2 x o) = Hide N H2 := fun o => by
      funext a
      by_cases z : a = x
      · subst z; simp [Hide, hx]
      · unfold Hide; rw [upd_ne z]
    refine ⟨.ref x, h0, x, C, dx, fv, rfl, hx2, cl, no C at0, ?_, ?_⟩
    · have : fv.length = fs.length := by
        have l : ∀ {ds : List (Str × D)} {vs : List (Str × V)}, RvF X.K X.prog X.w π (Hide N H) vs ds → vs.length = ds.length := fun {ds} => by
          induction ds with
          | nil => intro vs r; cases r; rfl
          | cons d ds ih => intro vs r; cases r with | cons _ t => rw [List.length_cons, List.length_cons, ih t]
        exact l rf
      omega
    · refine hr ((I.ext e2).upHid hx n0 (fun j g l' h1 o1 _ => by rw [own j g h1] at o1; cases o1)) h0 hx n0 own cl at0 upd_same (by rw [hide]; exact rf2.add hb.1 r) (T.all_mono (fun gs g H' gv a b c d => g H' gv (fun y o y1 y2 z => a y o y1 y2 (by rw [upd_ne y2]; exact e2.kp y o y1 z)) b c d) hd)) (T.all_bind.mp q))⟩
end
section
variable {P : Program} {w : World} {K : PySem.W.Frag} {mg : Str → Option Value} {base : Heap}
def runI (n : Nat) (k : MI) : List D → T (List (Str × D)) := fun ds => k (Ent.un :: (ds.map Ent.val ++ List.replicate (n - ds.length) Ent.un)) []
/-- an `__init__`, by its body's reading -/
theorem init_ok {qual c : Str} {st : Stmt} {f : Addr} {fd : FuncData} {Nm ps : List Str} {k n p : Nat} {C : Addr} {dvs : List V} {ki : MI} (F : FunD K "__init__" qual (defArgs st) (defBody st) (defScope st) dvs [] f fd) (S : FnScope Nm ps (defScope st)) (hn : Nm.length = n + 1) (hp : ps.length = p + 1) (cl : Cls K C) (at_ : ClsAt K c C)
    (hb : ∀ (cdv : Value) (A : Around) (outer : List Env) (s : Shared) (H : Hp) (E : XK), Room k (A.deeper (PyProof.Rows.envOfC qual (defScope st) s.heap.objs.size f cdv)) → SndIn (cxOf CX0 P w K mg base Nm qual (defScope st) f cdv A outer s H E).nox c (defBody st) ki) :
    FnOk P w K mg base CX0 (k + 1) f fd ps (spI K P w c p (runI n ki)) := by
  refine F.ok (k := k) S (fun vs H Q E h => ?_) (fun cdv A outer s H vs Q E hr h => ?_)
  · obtain ⟨π, N, x, dx, C, args, ds, rfl, hl, _⟩ := h
    rw [List.length_cons, hl, hp]
  · suffices z : wpSs (cxOf CX0 P w K mg base Nm qual (defScope st) f cdv A outer s H E).nox (defBody st) { nx := fun _ H' => Q .non H', rt := Q } (L2.start Nm vs) H by
      obtain ⟨t, a, b⟩ := z
      exact ⟨t, a.nox, b⟩
    obtain ⟨π, N, x, dx, C2, args, ds, rfl, hl, hn2, Nx, hx, hc, ra, hall⟩ := h
    have ec := at_.one hc
    subst ec
    have xpi := N_ne hn2 Nx
    have l1 := ra.length
    have E0 : EnvOk K P w π (minus N x) (fun a => if a = x then none else H a) N H (L2.start Nm (.ref x :: args)) (Ent.un :: (ds.map Ent.val ++ List.replicate (n - ds.length) Ent.un)) := by
      have s0 := env_start (Nm := Nm.drop 1) hn2 ra
      have len : (Nm.drop 1).length = n := by rw [List.length_drop, hn]; rfl
      rw [len] at s0
      have st0 : L2.start Nm (V.ref x :: args) = some (V.ref x) :: L2.start (Nm.drop 1) args := by
        unfold L2.start
        rw [List.map_cons, List.cons_append, len, hn, List.length_cons, show n + 1 - (args.length + 1) = n - args.length by omega]
      rw [st0]
      have J := s0.consUn (some (.ref x))
      refine ⟨J.hn, fun a o n1 h => ?_, fun a h => (minus_in h).1, fun a h => ?_, J.len, J.val, fun j y hy yo => ?_, J.inj⟩
      · by_cases z : a = x
        · subst z; simp at h
        · simpa [z] using h
      · by_cases z : a = x
        · subst z; exact .inr (by simp)
        · exact .inl (minus_of h z)
      · exfalso
        cases j with
        | zero => cases hy; cases yo
        | succ j =>
          have hy' : (ds.map Ent.val ++ List.replicate (n - ds.length) Ent.un)[j]? = some y := hy
          rcases List.mem_append.mp (List.mem_of_getElem? hy') with z | z
          · obtain ⟨d, _, rfl⟩ := List.mem_map.mp z; cases yo
          · rw [(List.mem_replicate.mp z).2] at yo; cases yo
    refine hb cdv A outer s H E hr E0 ?_ Nx minus_self (fun j g hg => ?_) cl at_ hx .nil (T.all_mono (fun gs g H' gv a b c d _ => g H' gv a b c d) hall)
    · unfold L2.start
      rfl
    · cases j with
      | zero => cases hg; rfl
      | succ j =>
        have hy' : (ds.map Ent.val ++ List.replicate (n - ds.length) Ent.un)[j]? = some g := hg
        rcases List.mem_append.mp (List.mem_of_getElem? hy') with z | z
        · obtain ⟨d, _, rfl⟩ := List.mem_map.mp z; rfl
        · rw [(List.mem_replicate.mp z).2]; rfl
end
end Pd
namespace Pd
open PySem L2 PySem.Spec PyProof.Rows
/-- the class c has nothing named f of its own, and its objects are plain -/
def AtP (K : PySem.W.Frag) (c f : Str) : Prop := ∃ C, ClsAt K c C ∧ Cls K C ∧ NoAttr K C f
theorem AtP.no {K : PySem.W.Frag} {c f : Str} (h : AtP K c f) : ∀ C, ClsAt K c C → NoAttr K C f := fun C hC => by
  obtain ⟨C2, a, _, n⟩ := h
  have e := a.one hC
  subst e
  exact n
/-- no other class of cs is one of c0 -/
def DfP (K : PySem.W.Frag) (cs : List Str) (c0 : Str) : Prop := ∀ c C C0, cs.contains c = true → (c == c0) = false → ClsAt K c C → ClsAt K c0 C0 → PySem.W.kitOne K (.ref C) (.ref C0) = some false
section
variable {X : Cx} {e : Expr} {m : Rho → T D} {pos : Pos}
theorem s_attrP {c f : Str} (h : AtP X.K c f) (ha : Snd X e m) (hb : attributeBase e f X.env (eval e X.env) = eval e X.env := by rfl) : Snd X (.Attribute e f pos) (eUn (attrD c f) m) :=
  let ⟨_, a, b, n⟩ := h
  s_attr a b n ha hb
theorem s_isinstG (cs : List Str) {c0 : Str} {p p2 : Pos} (kn : KnownC X.K cs) (ic : IcP X.K X.mg c0) (df : DfP X.K cs c0) (hm : X.mg "isinstance" = none) (ha : Snd X e m) (hg : Gl X "isinstance" := by rfl) (hgt : Gl X c0 := by rfl) (hd : (c0 == ("__debug__" : Str)) = false := by decide)
    (he : starEach [e, .Name c0 p] X.env = (false, eval e X.env) :: starEach [.Name c0 p] X.env := by rfl) (he2 : starEach [.Name c0 p] X.env = (false, eval (.Name c0 p) X.env) :: starEach [] X.env := by rfl) (hpl : (backTo pos (starEach [.Name c0 p] X.env)).any (·.1) = false := by rfl) :
    Snd X (.Call (.Name "isinstance" p2) [e, .Name c0 p] [] pos) (eUn (isOC cs c0) m) :=
  let ⟨_, a, b, c⟩ := ic
  s_isinstO cs kn a b (fun c C h1 h2 h3 => df c C _ h1 h2 h3 a) hm c ha hg hgt (by decide +kernel) hd he he2 hpl
end
end Pd
namespace Pd
open PySem L2 PySem.Spec PyProof.Rows
section
variable (X : Cx)
/-- as Walk, where all that was there stays -/
def WalkO (π : Addr) (N0 : Addr → Bool) (B : Hp) (J : It) (ds : List D) : Prop := ∀ (N : Addr → Bool) (H : Hp) (i : Nat), HN π N H → Kp π B H → Kp π (Hide N0 B) (Hide N H) →
  (∀ d, ds[i]? = some d → J.go i H ∧ ∀ x H', J.yld i H x H' → Ex π H H' ∧ Rv X.K X.prog X.w π (Hide N H') x d) ∧ (i = ds.length → J.stop i H)
end
end Pd
namespace Pd
open PySem L2 PySem.Spec PyProof.Rows
section
variable {prog : Program} {w : World} {A : Around} {R : Result → Shared → Prop}
open AutoSeq1 (wpAny_loadPart')
open MeetsSeq MeetsSeq2 MeetsSeq3 SeqRoads2
open SeqAt
/-- two lists, read anew at each turn; e tells which items are alike -/
def ListE (prog : Program) (w : World) (A : Around) (E : Value → Shared → Prop) (l b : Addr) (N : Nat) (e : Nat → Bool) (J : Shared → Prop) : Prop :=
  ∀ s, J s → ∃ (items items2 : Array Value) (n n2 : Nat), s.heap.get? l = some { cls := .type "list", data := .seq items n } ∧ s.heap.get? b = some { cls := .type "list", data := .seq items2 n2 } ∧ items.size = N ∧ items2.size = N ∧
    ∀ (i : Nat) (h1 : i < items.size) (h2 : i < items2.size), wpAny (model prog w) A.in1 (eqBool items[i] items2[i]) (fun r s' => r = e i ∧ J s') E s
theorem range_at {N i : Nat} (h : i < N) (e : Nat → Bool) : ((List.range N).drop i).all e = (e i && ((List.range N).drop (i + 1)).all e) := by
  rw [show (List.range N).drop i = i :: (List.range N).drop (i + 1) from by simp [List.drop_eq_getElem_cons, h], List.all_cons]
theorem eq_turnsE (l b : Addr) (N : Nat) (e : Nat → Bool) (J : Shared → Prop) (hJ : ListE prog w A (fun e s' => R (.error e) s') l b N e J) :
    ∀ (k i : Nat), N - i = k → i ≤ N → ∀ s, J s → (∀ s, J s → R (.ok (.ret (.bool (((List.range N).drop i).all e)))) s) → wpAny (model prog w) A.in1 (Builtin.«list.__eq__.loop» ⟨[.ref l, .ref b, rawInt i, rawInt 2], []⟩) (GQ.FinOf prog w A R) (fun e s' => R (.error e) s') s := by
  intro k
  induction k with
  | zero =>
    intro i hk hi s j done
    obtain ⟨xs, ys, m, m2, g1, g2, z1, z2, _⟩ := hJ _ j
    obtain rfl : i = N := by omega
    have q := done s j
    rw [show (List.range i).drop i = [] from by rw [List.drop_of_length_le (by simp)]] at q
    obtain ⟨hp, gs, dr, tk, o⟩ := s
    wp_walk using wpAny_loadPart' g1, wpAny_loadPart' g2
    have n1 : xs[((i : Nat) : Int).toNat]? = none := by simp; omega
    have n2 : ys[((i : Nat) : Int).toNat]? = none := by simp; omega
    rw [n1, n2]
    wp_walk using wpAny_loadPart' g1, wpAny_loadPart' g2
    show R (.ok (.ret (.bool (xs.size == ys.size)))) _
    rw [z1, z2]
    simpa using q
  | succ k ih =>
    intro i hk hi s j done
    obtain ⟨xs, ys, m, m2, g1, g2, z1, z2, one⟩ := hJ _ j
    have b1 : i < xs.size := by omega
    have b2 : i < ys.size := by omega
    have turn := one i b1 b2
    obtain ⟨hp, gs, dr, tk, o⟩ := s
    wp_walk using wpAny_loadPart' g1, wpAny_loadPart' g2
    have n1 : xs[((i : Nat) : Int).toNat]? = some xs[i] := by simp [b1]
    have n2 : ys[((i : Nat) : Int).toNat]? = some ys[i] := by simp [b2]
    have nx : ((i : Int) + 1) = ((i + 1 : Nat) : Int) := by omega
    rw [n1, n2]
    refine wpAny_bind (wpAny_mono turn (fun r s2 z => ?_) fun _ _ z => z)
    obtain ⟨er, z⟩ := z
    subst er
    rw [range_at (by omega : i < N)] at done
    cases q : e i with
    | true =>
      rw [q, Bool.true_and] at done
      have rest := ih (i + 1) (by omega) (by omega) s2 z done
      obtain ⟨hp2, gs2, dr2, tk2, o2⟩ := s2
      wp_walk
      rw [nx]
      exact ⟨plainId_quiet plain_eq_loop _, codeAny_builtin entry_eq_loop (by rw [Around.under_plainId plain_eq_loop _]; exact rest)⟩
    | false =>
      rw [q, Bool.false_and] at done
      have fin := done s2 z
      obtain ⟨xs', ys', m', m2', g1', g2', z1', z2', _⟩ := hJ _ z
      obtain ⟨hp2, gs2, dr2, tk2, o2⟩ := s2
      have n1' : xs'[((i : Nat) : Int).toNat]? = some (xs'[i]'(by omega)) := by simp [show i < xs'.size by omega]
      have n2' : ys'[((i : Nat) : Int).toNat]? = some (ys'[i]'(by omega)) := by simp [show i < ys'.size by omega]
      wp_walk using wpAny_loadPart' g1', wpAny_loadPart' g2'
      rw [n1', n2']
      wp_walk
      exact fin
theorem ne_turnsE (l b : Addr) (N : Nat) (e : Nat → Bool) (J : Shared → Prop) (hJ : ListE prog w A (fun e s' => R (.error e) s') l b N e J) :
    ∀ (k i : Nat), N - i = k → i ≤ N → ∀ s, J s → (∀ s, J s → R (.ok (.ret (.bool (!((List.range N).drop i).all e)))) s) → wpAny (model prog w) A.in1 (Builtin.«list.__eq__.loop» ⟨[.ref l, .ref b, rawInt i, rawInt 3], []⟩) (GQ.FinOf prog w A R) (fun e s' => R (.error e) s') s := by
  intro k
  induction k with
  | zero =>
    intro i hk hi s j done
    obtain ⟨xs, ys, m, m2, g1, g2, z1, z2, _⟩ := hJ _ j
    obtain rfl : i = N := by omega
    have q := done s j
    rw [show (List.range i).drop i = [] from by rw [List.drop_of_length_le (by simp)]] at q
    obtain ⟨hp, gs, dr, tk, o⟩ := s
    wp_walk using wpAny_loadPart' g1, wpAny_loadPart' g2
    have n1 : xs[((i : Nat) : Int).toNat]? = none := by simp; omega
    have n2 : ys[((i : Nat) : Int).toNat]? = none := by simp; omega
    rw [n1, n2]
    wp_walk using wpAny_loadPart' g1, wpAny_loadPart' g2
    show R (.ok (.ret (.bool (xs.size != ys.size)))) _
    rw [z1, z2]
    simpa using q
  | succ k ih =>
    intro i hk hi s j done
    obtain ⟨xs, ys, m, m2, g1, g2, z1, z2, one⟩ := hJ _ j
    have b1 : i < xs.size := by omega
    have b2 : i < ys.size := by omega
    have turn := one i b1 b2
    obtain ⟨hp, gs, dr, tk, o⟩ := s
    wp_walk using wpAny_loadPart' g1, wpAny_loadPart' g2
    have n1 : xs[((i : Nat) : Int).toNat]? = some xs[i] := by simp [b1]
    have n2 : ys[((i : Nat) : Int).toNat]? = some ys[i] := by simp [b2]
    have nx : ((i : Int) + 1) = ((i + 1 : Nat) : Int) := by omega
    rw [n1, n2]
    refine wpAny_bind (wpAny_mono turn (fun r s2 z => ?_) fun _ _ z => z)
    obtain ⟨er, z⟩ := z
    subst er
    rw [range_at (by omega : i < N)] at done
    cases q : e i with
    | true =>
      rw [q, Bool.true_and] at done
      have rest := ih (i + 1) (by omega) (by omega) s2 z done
      obtain ⟨hp2, gs2, dr2, tk2, o2⟩ := s2
      wp_walk
      rw [nx]
      exact ⟨plainId_quiet plain_eq_loop _, codeAny_builtin entry_eq_loop (by rw [Around.under_plainId plain_eq_loop _]; exact rest)⟩
    | false =>
      rw [q, Bool.false_and] at done
      have fin := done s2 z
      obtain ⟨xs', ys', m', m2', g1', g2', z1', z2', _⟩ := hJ _ z
      obtain ⟨hp2, gs2, dr2, tk2, o2⟩ := s2
      have n1' : xs'[((i : Nat) : Int).toNat]? = some (xs'[i]'(by omega)) := by simp [show i < xs'.size by omega]
      have n2' : ys'[((i : Nat) : Int).toNat]? = some (ys'[i]'(by omega)) := by simp [show i < ys'.size by omega]
      wp_walk using wpAny_loadPart' g1', wpAny_loadPart' g2'
      rw [n1', n2']
      wp_walk
      exact fin
theorem eq_listsE (l b : Addr) (N : Nat) (e : Nat → Bool) (J : Shared → Prop) (hJ : ListE prog w A (fun e s' => R (.error e) s') l b N e J) (done : ∀ s, J s → R (.ok (.ret (.bool ((List.range N).all e)))) s) {s : Shared} (j : J s) :
    wpAny (model prog w) A.in1 (Builtin.«list.__eq__» ⟨[.ref l, .ref b], []⟩) (GQ.FinOf prog w A R) (fun e s' => R (.error e) s') s := by
  obtain ⟨xs, ys, m, m2, g1, g2, z1, z2, _⟩ := hJ _ j
  have rest := eq_turnsE (A := A) (R := R) l b N e J hJ _ 0 rfl (Nat.zero_le _) s j (by simpa using done)
  obtain ⟨hp, gs, dr, tk, o⟩ := s
  have f3 := AutoSeq1.sub_list_list
  have same : ¬ (xs.size != ys.size) = true := by simp [z1, z2]
  wp_walk using wpAny_loadPart' g1, wpAny_loadPart' g2
  exact ⟨plainId_quiet plain_eq_loop _, codeAny_builtin entry_eq_loop (by rw [Around.under_plainId plain_eq_loop _]; exact rest)⟩
theorem ne_listsE (l b : Addr) (N : Nat) (e : Nat → Bool) (J : Shared → Prop) (hJ : ListE prog w A (fun e s' => R (.error e) s') l b N e J) (done : ∀ s, J s → R (.ok (.ret (.bool (!(List.range N).all e)))) s) {s : Shared} (j : J s) :
    wpAny (model prog w) A.in1 (Builtin.«list.__ne__» ⟨[.ref l, .ref b], []⟩) (GQ.FinOf prog w A R) (fun e s' => R (.error e) s') s := by
  obtain ⟨xs, ys, m, m2, g1, g2, z1, z2, _⟩ := hJ _ j
  have rest := ne_turnsE (A := A) (R := R) l b N e J hJ _ 0 rfl (Nat.zero_le _) s j (by simpa using done)
  obtain ⟨hp, gs, dr, tk, o⟩ := s
  have f3 := AutoSeq1.sub_list_list
  have same : ¬ (xs.size != ys.size) = true := by simp [z1, z2]
  wp_walk using wpAny_loadPart' g1, wpAny_loadPart' g2
  exact ⟨plainId_quiet plain_eq_loop _, codeAny_builtin entry_eq_loop (by rw [Around.under_plainId plain_eq_loop _]; exact rest)⟩
/-- of other lengths -/
theorem eq_listsL {l b : Addr} {xs ys : Array Value} {m m2 : Nat} {d1 d2 : Option Addr} {sl sl2 : Array (Option Value)} {s : Shared} (hz : xs.size ≠ ys.size) (g1 : s.heap.get? l = some { cls := .type "list", dict := d1, data := .seq xs m, slots := sl }) (g2 : s.heap.get? b = some { cls := .type "list", dict := d2, data := .seq ys m2, slots := sl2 })
    (q : R (.ok (.ret (.bool false))) s) : wpAny (model prog w) A.in1 (Builtin.«list.__eq__» ⟨[.ref l, .ref b], []⟩) (GQ.FinOf prog w A R) (fun e s' => R (.error e) s') s := by
  obtain ⟨hp, gs, dr, tk, o⟩ := s
  have f3 := AutoSeq1.sub_list_list
  have differ : (xs.size != ys.size) = true := by simp [hz]
  wp_walk using wpAny_loadPart' g1, wpAny_loadPart' g2
  exact q
theorem ne_listsL {l b : Addr} {xs ys : Array Value} {m m2 : Nat} {d1 d2 : Option Addr} {sl sl2 : Array (Option Value)} {s : Shared} (hz : xs.size ≠ ys.size) (g1 : s.heap.get? l = some { cls := .type "list", dict := d1, data := .seq xs m, slots := sl }) (g2 : s.heap.get? b = some { cls := .type "list", dict := d2, data := .seq ys m2, slots := sl2 })
    (q : R (.ok (.ret (.bool true))) s) : wpAny (model prog w) A.in1 (Builtin.«list.__ne__» ⟨[.ref l, .ref b], []⟩) (GQ.FinOf prog w A R) (fun e s' => R (.error e) s') s := by
  obtain ⟨hp, gs, dr, tk, o⟩ := s
  have f3 := AutoSeq1.sub_list_list
  have differ : (xs.size != ys.size) = true := by simp [hz]
  wp_walk using wpAny_loadPart' g1, wpAny_loadPart' g2
  exact q
theorem eq_tupsE (l b : Addr) (xs ys : Array Value) (m m2 : Nat) (d1 d2 : Option Addr) (sl sl2 : Array (Option Value)) (e : Nat → Bool) (J : Shared → Prop)
    (turn : ∀ i (b1 : i < xs.size) (b2 : i < ys.size) s, J s → wpAny (model prog w) A.in1 (eqBool xs[i] ys[i]) (fun r s' => r = e i ∧ J s') (fun e s' => R (.error e) s') s) (done : ∀ s, J s → R (.ok (.ret (.bool ((List.range (min xs.size ys.size)).all e && xs.size == ys.size)))) s)
    {s : Shared} (g1 : s.heap.get? l = some { cls := .type "tuple", dict := d1, data := .seq xs m, slots := sl }) (g2 : s.heap.get? b = some { cls := .type "tuple", dict := d2, data := .seq ys m2, slots := sl2 }) (j : J s) :
    wpAny (model prog w) A.in1 (Builtin.«tuple.__eq__» ⟨[.ref l, .ref b], []⟩) (GQ.FinOf prog w A R) (fun e s' => R (.error e) s') s := by
  have f2 := AutoSeq1.sub_tuple_tuple
  have zl : (xs.toList.zip ys.toList).length = min xs.size ys.size := by simp
  have j0 := j
  have done0 : ∀ s, J s → R (.ok (.ret (.bool (((List.range (min xs.size ys.size)).drop 0).all e && xs.size == ys.size)))) s := by simpa using done
  obtain ⟨hp, gs, dr, tk, o⟩ := s
  wp_walk using wpAny_loadPart' g1, wpAny_loadPart' g2, wpAny_forIn_list _ (fun rest q s' => q.1 = none ∧ J s' ∧ ∃ i, rest = (xs.toList.zip ys.toList).drop i ∧ (∀ s, J s → R (.ok (.ret (.bool (((List.range (min xs.size ys.size)).drop i).all e && xs.size == ys.size)))) s)) _
  case turn =>
    rintro ⟨y, x⟩ rest q s' ⟨q1, ji, i, hr, hR⟩
    have lt : i < (xs.toList.zip ys.toList).length := by
      rcases Nat.lt_or_ge i (xs.toList.zip ys.toList).length with z | z
      · exact z
      · rw [List.drop_of_length_le z] at hr; cases hr
    have bm : i < min xs.size ys.size := zl ▸ lt
    have b1 : i < xs.size := Nat.lt_of_lt_of_le bm (Nat.min_le_left _ _)
    have b2 : i < ys.size := Nat.lt_of_lt_of_le bm (Nat.min_le_right _ _)
    rw [List.drop_eq_getElem_cons lt] at hr
    injection hr with hyx hrest
    have ey : y = xs[i] := by have := congrArg Prod.fst hyx; simpa using this
    have ex : x = ys[i] := by have := congrArg Prod.snd hyx; simpa using this
    subst ey ex
    rw [range_at bm] at hR
    refine wpAny_bind (wpAny_mono (turn i b1 b2 s' ji) (fun r s2 z => ?_) fun _ _ z => z)
    obtain ⟨er, z⟩ := z
    subst er
    cases c : e i with
    | true =>
      rw [c, Bool.true_and] at hR
      wp_walk
      exact ⟨rfl, z, i + 1, hrest, hR⟩
    | false =>
      have hq := hR s2 z
      rw [c] at hq
      wp_walk
      simpa using hq
  case fin =>
    rintro ⟨q1, q2⟩ s' ⟨q0, ji, i, hr, hR⟩
    simp only at q0
    subst q0
    have ge : min xs.size ys.size ≤ i := by
      rcases Nat.lt_or_ge i (xs.toList.zip ys.toList).length with z | z
      · rw [List.drop_eq_getElem_cons z] at hr; cases hr
      · exact zl ▸ z
    have q := hR s' ji
    rw [List.drop_of_length_le (by simpa using ge)] at q
    wp_walk
    simpa [Builtin.Tuple.tupleCompareSizes] using q
  case h => exact ⟨rfl, j0, 0, rfl, done0⟩
theorem ne_tupsE (l b : Addr) (xs ys : Array Value) (m m2 : Nat) (d1 d2 : Option Addr) (sl sl2 : Array (Option Value)) (e : Nat → Bool) (J : Shared → Prop)
    (turn : ∀ i (b1 : i < xs.size) (b2 : i < ys.size) s, J s → wpAny (model prog w) A.in1 (eqBool xs[i] ys[i]) (fun r s' => r = e i ∧ J s') (fun e s' => R (.error e) s') s) (done : ∀ s, J s → R (.ok (.ret (.bool (!((List.range (min xs.size ys.size)).all e && xs.size == ys.size))))) s)
    {s : Shared} (g1 : s.heap.get? l = some { cls := .type "tuple", dict := d1, data := .seq xs m, slots := sl }) (g2 : s.heap.get? b = some { cls := .type "tuple", dict := d2, data := .seq ys m2, slots := sl2 }) (j : J s) :
    wpAny (model prog w) A.in1 (Builtin.«tuple.__ne__» ⟨[.ref l, .ref b], []⟩) (GQ.FinOf prog w A R) (fun e s' => R (.error e) s') s := by
  have f2 := AutoSeq1.sub_tuple_tuple
  have zl : (xs.toList.zip ys.toList).length = min xs.size ys.size := by simp
  have j0 := j
  have done0 : ∀ s, J s → R (.ok (.ret (.bool (!(((List.range (min xs.size ys.size)).drop 0).all e && xs.size == ys.size))))) s := by simpa using done
  obtain ⟨hp, gs, dr, tk, o⟩ := s
  wp_walk using wpAny_loadPart' g1, wpAny_loadPart' g2, wpAny_forIn_list _ (fun rest q s' => q.1 = none ∧ J s' ∧ ∃ i, rest = (xs.toList.zip ys.toList).drop i ∧ (∀ s, J s → R (.ok (.ret (.bool (!(((List.range (min xs.size ys.size)).drop i).all e && xs.size == ys.size))))) s)) _
  case turn =>
    rintro ⟨y, x⟩ rest q s' ⟨q1, ji, i, hr, hR⟩
    have lt : i < (xs.toList.zip ys.toList).length := by
      rcases Nat.lt_or_ge i (xs.toList.zip ys.toList).length with z | z
      · exact z
      · rw [List.drop_of_length_le z] at hr; cases hr
    have bm : i < min xs.size ys.size := zl ▸ lt
    have b1 : i < xs.size := Nat.lt_of_lt_of_le bm (Nat.min_le_left _ _)
    have b2 : i < ys.size := Nat.lt_of_lt_of_le bm (Nat.min_le_right _ _)
    rw [List.drop_eq_getElem_cons lt] at hr
    injection hr with hyx hrest
    have ey : y = xs[i] := by have := congrArg Prod.fst hyx; simpa using this
    have ex : x = ys[i] := by have := congrArg Prod.snd hyx; simpa using this
    subst ey ex
    rw [range_at bm] at hR
    refine wpAny_bind (wpAny_mono (turn i b1 b2 s' ji) (fun r s2 z => ?_) fun _ _ z => z)
    obtain ⟨er, z⟩ := z
    subst er
    cases c : e i with
    | true =>
      rw [c, Bool.true_and] at hR
      wp_walk
      exact ⟨rfl, z, i + 1, hrest, hR⟩
    | false =>
      have hq := hR s2 z
      rw [c] at hq
      wp_walk
      simpa using hq
  case fin =>
    rintro ⟨q1, q2⟩ s' ⟨q0, ji, i, hr, hR⟩
    simp only at q0
    subst q0
    have ge : min xs.size ys.size ≤ i := by
      rcases Nat.lt_or_ge i (xs.toList.zip ys.toList).length with z | z
      · rw [List.drop_eq_getElem_cons z] at hr; cases hr
      · exact zl ▸ z
    have q := hR s' ji
    rw [List.drop_of_length_le (by simpa using ge)] at q
    wp_walk
    simpa [Builtin.Tuple.tupleCompareSizes, bne] using q
  case h => exact ⟨rfl, j0, 0, rfl, done0⟩
end
section
variable {prog : Program} {w : World} {A : Around} {E : Value → Shared → Prop} {s : Shared}
/-- is it ==, or != -/
def opB (n : Bool) : CmpOp := cond n .NotEq .Eq
theorem rc_listsE {l b : Addr} {N : Nat} {e : Nat → Bool} {Q : Value → Shared → Prop} (n : Bool) (hu : A.units < cLine) (J : Shared → Prop) (hJ : ListE prog w A E l b N e J) (done : ∀ s, J s → Q (.bool (n ^^ (List.range N).all e)) s) (j : J s) : wpAny (model prog w) A (richCompare (opB n) (.ref l) (.ref b)) Q E s := by
  obtain ⟨xs, ys, m, m2, g1, g2, _, _, _⟩ := hJ _ j
  cases n with
  | false =>
    refine wpAny_richCompare_same_room (op := .Eq) ⟨_, g1, rfl⟩ ⟨_, g2, rfl⟩ F.slot_list_eq (GQ.call_here F.slot_list_eq ⟨_, g1, rfl⟩ F.entry_list_eq (F.args_list_eq_2 _ _) ?_) hu
    exact eq_listsE (R := wants (fun v s' => v ≠ .notImplemented ∧ Q v s') E) l b N e J hJ (fun s' q => ⟨(fun x => nomatch x), by simpa using done s' q⟩) j
  | true =>
    refine wpAny_richCompare_same_room (op := .NotEq) ⟨_, g1, rfl⟩ ⟨_, g2, rfl⟩ F.slot_list_ne (GQ.call_here F.slot_list_ne ⟨_, g1, rfl⟩ F.entry_list_ne (F.args_list_ne_2 _ _) ?_) hu
    exact ne_listsE (R := wants (fun v s' => v ≠ .notImplemented ∧ Q v s') E) l b N e J hJ (fun s' q => ⟨(fun x => nomatch x), by simpa using done s' q⟩) j
theorem rc_listsL {l b : Addr} {xs ys : Array Value} {m m2 : Nat} {d1 d2 : Option Addr} {sl sl2 : Array (Option Value)} {Q : Value → Shared → Prop} (n : Bool) (hu : A.units < cLine) (hz : xs.size ≠ ys.size) (g1 : s.heap.get? l = some { cls := .type "list", dict := d1, data := .seq xs m, slots := sl }) (g2 : s.heap.get? b = some { cls := .type "list", dict := d2, data := .seq ys m2, slots := sl2 })
    (q : Q (.bool n) s) : wpAny (model prog w) A (richCompare (opB n) (.ref l) (.ref b)) Q E s := by
  cases n with
  | false =>
    refine wpAny_richCompare_same_room (op := .Eq) ⟨_, g1, rfl⟩ ⟨_, g2, rfl⟩ F.slot_list_eq (GQ.call_here F.slot_list_eq ⟨_, g1, rfl⟩ F.entry_list_eq (F.args_list_eq_2 _ _) ?_) hu
    exact eq_listsL (R := wants (fun v s' => v ≠ .notImplemented ∧ Q v s') E) hz g1 g2 ⟨(fun x => nomatch x), q⟩
  | true =>
    refine wpAny_richCompare_same_room (op := .NotEq) ⟨_, g1, rfl⟩ ⟨_, g2, rfl⟩ F.slot_list_ne (GQ.call_here F.slot_list_ne ⟨_, g1, rfl⟩ F.entry_list_ne (F.args_list_ne_2 _ _) ?_) hu
    exact ne_listsL (R := wants (fun v s' => v ≠ .notImplemented ∧ Q v s') E) hz g1 g2 ⟨(fun x => nomatch x), q⟩
theorem rc_tupsE {l b : Addr} {xs ys : Array Value} {e : Nat → Bool} {Q : Value → Shared → Prop} (n : Bool) (hu : A.units < cLine) (J : Shared → Prop) (hl : s.heap.IsTuple l xs) (hb : s.heap.IsTuple b ys)
    (turn : ∀ i (b1 : i < xs.size) (b2 : i < ys.size) s, J s → wpAny (model prog w) A.in1 (eqBool xs[i] ys[i]) (fun r s' => r = e i ∧ J s') E s) (done : ∀ s, J s → Q (.bool (n ^^ ((List.range (min xs.size ys.size)).all e && xs.size == ys.size))) s) (j : J s) : wpAny (model prog w) A (richCompare (opB n) (.ref l) (.ref b)) Q E s := by
  obtain ⟨⟨c1, d1, t1, sl⟩, g1, hc, m, hd⟩ := id hl
  obtain ⟨⟨c2, d2, t2, sl2⟩, g2, hc2, m2, hd2⟩ := id hb
  simp only at hc hd hc2 hd2
  subst hc hd hc2 hd2
  cases n with
  | false =>
    refine wpAny_richCompare_same_room (op := .Eq) ⟨_, g1, rfl⟩ ⟨_, g2, rfl⟩ F.slot_tuple_eq (GQ.call_here F.slot_tuple_eq ⟨_, g1, rfl⟩ F.entry_tuple_eq (F.args_tuple_eq_2 _ _) ?_) hu
    exact eq_tupsE (R := wants (fun v s' => v ≠ .notImplemented ∧ Q v s') E) l b xs ys m m2 d1 d2 sl sl2 e J turn (fun s' q => ⟨(fun x => nomatch x), by simpa only [Bool.false_bne, Bool.false_xor] using done s' q⟩) g1 g2 j
  | true =>
    refine wpAny_richCompare_same_room (op := .NotEq) ⟨_, g1, rfl⟩ ⟨_, g2, rfl⟩ F.slot_tuple_ne (GQ.call_here F.slot_tuple_ne ⟨_, g1, rfl⟩ F.entry_tuple_ne (F.args_tuple_ne_2 _ _) ?_) hu
    exact ne_tupsE (R := wants (fun v s' => v ≠ .notImplemented ∧ Q v s') E) l b xs ys m m2 d1 d2 sl sl2 e J turn (fun s' q => ⟨(fun x => nomatch x), by simpa only [Bool.true_xor] using done s' q⟩) g1 g2 j
end
end Pd
namespace Pd
open PySem L2 PySem.Spec PyProof.Rows
mutual
/-- alike or not; E: two instances -/
def D.eqv (E : D → D → Option Bool) : D → D → Option Bool
  | .non, d => match d with
    | .non => some true
    | _ => none
  | .bl a, d => match d with
    | .bl b => some (a == b)
    | _ => none
  | .int a, d => match d with
    | .int b => some (a == b)
    | _ => none
  | .str a, d => match d with
    | .str b => some (a == b)
    | _ => none
  | .tup xs, d => match d with
    | .tup ys => D.eqvs E xs ys
    | _ => none
  | .lst xs, d => match d with
    | .lst ys => D.eqvs E xs ys
    | _ => none
  | .ins c fs, d => match d with
    | .ins c2 gs => E (.ins c fs) (.ins c2 gs)
    | _ => none
  | .dic _, _ => none
  | .pot, _ => none
  | .fn _, _ => none
  | .rng _, _ => none
  | .dik _, _ => none
  | .clo _ _, _ => none
def D.eqvs (E : D → D → Option Bool) : List D → List D → Option Bool
  | [], ys => some ys.isEmpty
  | x :: xs, ys => match ys with
    | y :: ys => match D.eqv E x y with
      | none => none
      | some b => match D.eqvs E xs ys with
        | none => none
        | some c => some (b && c)
    | [] => some false
end
theorem eqvs_cons {E : D → D → Option Bool} {x y : D} {xs ys : List D} {b : Bool} (h : D.eqvs E (x :: xs) (y :: ys) = some b) : ∃ b1 b2, D.eqv E x y = some b1 ∧ D.eqvs E xs ys = some b2 ∧ b = (b1 && b2) := by
  have e : D.eqvs E (x :: xs) (y :: ys) = (match D.eqv E x y with
      | none => none
      | some b => match D.eqvs E xs ys with
        | none => none
        | some c => some (b && c)) := by
    conv => lhs; unfold D.eqvs
  rw [e] at h
  cases q : D.eqv E x y with
  | none => rw [q] at h; cases h
  | some b1 =>
    rw [q] at h
    cases q2 : D.eqvs E xs ys with
    | none => rw [q2] at h; cases h
    | some b2 =>
      rw [q2] at h
      exact ⟨_, _, rfl, rfl, (Option.some.inj h).symm⟩
/-- whole numbers alone -/
def flatF : List (Str × D) → Bool
  | [] => true
  | (_, .int _) :: r => flatF r
  | _ => false
section
variable {K : PySem.W.Frag} {P : Program} {w : World} {π : Addr} {H : Hp}
theorem flatF_one : ∀ {fs gs : List (Str × D)} {vs : List (Str × V)}, flatF fs = true → flatF gs = true → RvF K P w π H vs fs → RvF K P w π H vs gs → fs = gs
  | [], gs, vs, _, _, r, r2 => by cases r; cases r2; rfl
  | (x, d) :: fs, gs, vs, h, h2, r, r2 => by
    cases r with
    | cons r t => cases r2 with
      | @cons _ _ d2 _ gs2 r2 t2 =>
        cases d <;> first | (exact absurd h Bool.false_ne_true) | skip
        cases d2 <;> first | (exact absurd h2 Bool.false_ne_true) | skip
        cases r
        cases r2
        exact congrArg _ (flatF_one (fs := fs) (gs := gs2) h h2 t t2)
end
/-- two instances by their class's own == (no own !=); those that a list may hold are flat where they differ -/
def EqOk (X : Cx) (k : Nat) (E : D → D → Option Bool) : Prop := ∀ (c c2 : Str) (fs gs : List (Str × D)) (b : Bool), E (.ins c fs) (.ins c2 gs) = some b → (b = false → flatF fs = true ∧ flatF gs = true ∧ fs ≠ gs) ∧ ∃ (C f : Addr) (fd : FuncData) (ps : List Str) (F : List D → T D), ClsAt X.K c C ∧ ClsAt X.K c2 C ∧ CmpOwn X.K C .Eq f ∧ FnOk X.prog X.w X.K X.mg X.base CX0 k f fd ps (spD X.K X.prog X.w 2 F) ∧ Binds X.K fd ps [] ∧ F [.ins c fs, .ins c2 gs] = .ret (.bl b) ∧
  PySem.W.findIn X.K (.ref C) "__ne__" = some (some (.builtin "object.__ne__")) ∧ PySem.W.mroIn X.K C (.type "object") = some true
/-- u == v gives c, asked under way -/
def EqC (X : Cx) (σ : L2.St) (π : Addr) (H0 : Hp) (n : Nat) (c : Bool) (u v : Value) : Prop :=
  ∀ (A : Around) (pins : List (Addr × Obj)) (s : Shared) (E : Value → Shared → Prop) (Q : Bool → Shared → Prop), Room n A → A.frames = some X.stack → Goes X σ π H0 pins s → (∀ s', Goes X σ π H0 pins s' → Q c s') → wpAny (model X.prog X.w) A (eqBool u v) Q E s
/-- the items, one by one: e tells which are alike -/
def EqsC (X : Cx) (σ : L2.St) (π : Addr) (H0 : Hp) (n : Nat) (e : Nat → Bool) (xs ys : List V) : Prop :=
  ∀ (i : Nat) (x y : V), xs[i]? = some x → ys[i]? = some y → ∀ u v, RelV x u → RelV y v → EqC X σ π H0 n (e i) u v
section
variable {X : Cx} {σ : L2.St} {π : Addr} {H0 : Hp} {n : Nat}
theorem EqC.mono {m n : Nat} {c : Bool} {u v : Value} (h : EqC X σ π H0 m c u v) (l : m ≤ n) : EqC X σ π H0 n c u v := fun A pins s E Q hr => h A pins s E Q (hr.mono l)
theorem RcW.eqC {a b : Addr} {c : Bool} (ne : c = false → a ≠ b) (h : RcW X σ π H0 n .Eq c (.ref a) (.ref b)) : EqC X σ π H0 n c (.ref a) (.ref b) := fun A pins s E Q hr hf G hQ => by
  by_cases e : a = b
  · cases c with
    | false => exact absurd e (ne rfl)
    | true =>
      subst e
      exact SeqAt.EqAt.same (A := A) (s := s) (.ref a) X.prog X.w E _ (hQ s G)
  · exact GQ.eqBool_refG e (h A pins s E _ hr hf G fun s' G' => ⟨c, rfl, hQ s' G'⟩)
theorem EqC.flat {x y : V} {u v : Value} {c : Bool} (rx : RelV x u) (ry : RelV y v) (fx : flatV x = true) (fy : flatV y = true) (e : eqV x y = c) : EqC X σ π H0 n c u v := fun A pins s E Q hr hf G hQ => by
  have q := eqAt_V (A := A) (s := s) rx ry fx fy
  rw [e] at q
  exact q X.prog X.w E _ (hQ s G)
theorem EqsC.turn {xs ys : List V} {e : Nat → Bool} {its its2 : List Value} {A : Around} {pins : List (Addr × Obj)} {E : Value → Shared → Prop} (T : EqsC X σ π H0 n e xs ys) (hr : Room (n + 1) A) (hf : A.frames = some X.stack) (r : Vals xs its) (r2 : Vals ys its2) (i : Nat) (b1 : i < its.toArray.size) (b2 : i < its2.toArray.size) (s : Shared) (G : Goes X σ π H0 pins s) :
    wpAny (model X.prog X.w) A.in1 (eqBool its.toArray[i] its2.toArray[i]) (fun r s' => r = e i ∧ Goes X σ π H0 pins s') E s := by
  have c1 : i < its.length := by simpa using b1
  have c2 : i < its2.length := by simpa using b2
  have k1 : i < xs.length := by rw [r.length]; exact c1
  have k2 : i < ys.length := by rw [r2.length]; exact c2
  obtain ⟨u, hu, ru⟩ := r.get (List.getElem?_eq_getElem k1)
  obtain ⟨v, hv, rv⟩ := r2.get (List.getElem?_eq_getElem k2)
  have e1 : its.toArray[i] = u := by
    have z : its[i]? = some its[i] := List.getElem?_eq_getElem c1
    rw [z] at hu
    simpa using Option.some.inj hu
  have e2 : its2.toArray[i] = v := by
    have z : its2[i]? = some its2[i] := List.getElem?_eq_getElem c2
    rw [z] at hv
    simpa using Option.some.inj hv
  rw [e1, e2]
  exact T i _ _ (List.getElem?_eq_getElem k1) (List.getElem?_eq_getElem k2) u v ru rv A.in1 pins s E _ hr.in1 hf G fun s' G' => ⟨rfl, G'⟩
/-- two lists -/
theorem RcW.listE {a b : Addr} {xs ys : List V} {e : Nat → Bool} (k : Bool) (ha : H0 a = some (.lst xs)) (hap : a ≠ π) (hb : H0 b = some (.lst ys)) (hbp : b ≠ π) (T : EqsC X σ π H0 n e xs ys) :
    RcW X σ π H0 (n + 1) (opB k) (k ^^ (if xs.length = ys.length then (List.range xs.length).all e else false)) (.ref a) (.ref b) := fun A pins s E Q hr hf G hQ => by
  have rd : ∀ s, Goes X σ π H0 pins s → ∃ (its its2 : List Value) (m m2 : Nat), Vals xs its ∧ Vals ys its2 ∧ s.heap.get? a = some { cls := .type "list", data := .seq its.toArray m } ∧ s.heap.get? b = some { cls := .type "list", data := .seq its2.toArray m2 } := fun s G => by
    obtain ⟨H, I, e⟩ := id G
    obtain ⟨z, its, m, r, g⟩ := I.hok a _ (e.kp a _ hap ha)
    obtain ⟨z2, its2, m2, r2, g2⟩ := I.hok b _ (e.kp b _ hbp hb)
    exact ⟨its, its2, m, m2, r, r2, g, g2⟩
  by_cases hl : xs.length = ys.length
  · rw [if_pos hl] at hQ
    refine rc_listsE (N := xs.length) k (Nat.lt_of_succ_lt (room_units hr)) (fun s => Goes X σ π H0 pins s) (fun s G => ?_) (fun s' G' => hQ s' G') G
    obtain ⟨its, its2, m, m2, r, r2, g, g2⟩ := rd s G
    exact ⟨its.toArray, its2.toArray, m, m2, g, g2, by rw [List.size_toArray, ← r.length], by rw [List.size_toArray, ← r2.length, ← hl], fun i b1 b2 => T.turn hr hf r r2 i b1 b2 s G⟩
  · rw [if_neg hl] at hQ
    obtain ⟨its, its2, m, m2, r, r2, g, g2⟩ := rd s G
    refine rc_listsL k (Nat.lt_of_succ_lt (room_units hr)) (by rw [List.size_toArray, List.size_toArray, ← r.length, ← r2.length]; exact hl) g g2 ?_
    simpa using hQ s G
theorem RcW.tupE {a b : Addr} {xs ys : List V} {e : Nat → Bool} (k : Bool) (hS : ∀ H, Ex π H0 H → SqT X.K H a xs) (hS2 : ∀ H, Ex π H0 H → SqT X.K H b ys) (T : EqsC X σ π H0 n e xs ys) :
    RcW X σ π H0 (n + 1) (opB k) (k ^^ ((List.range (min xs.length ys.length)).all e && xs.length == ys.length)) (.ref a) (.ref b) := fun A pins s E Q hr hf G hQ => by
  obtain ⟨H, I, ex⟩ := id G
  obtain ⟨its, r, g, _⟩ := I.tuple (hS H ex)
  obtain ⟨its2, r2, g2, _⟩ := I.tuple (hS2 H ex)
  have h1 : its.toArray.size = xs.length := by rw [List.size_toArray, ← r.length]
  have h2 : its2.toArray.size = ys.length := by rw [List.size_toArray, ← r2.length]
  exact rc_tupsE k (Nat.lt_of_succ_lt (room_units hr)) (fun s => Goes X σ π H0 pins s) g g2 (fun i b1 b2 s' G' => T.turn hr hf r r2 i b1 b2 s' G') (fun s' G' => by rw [h1, h2]; exact hQ s' G') G
/-- two instances, by their own ==, or by object's own != -/
theorem RcW.insE {k : Nat} {C f a b dx dy : Addr} {fd : FuncData} {ps : List Str} {F : List D → T D} {fv gv : List (Str × V)} {N : Addr → Bool} {d d' : D} {c : Bool} (nq : Bool) (O : CmpOwn X.K C .Eq f) (G : FnOk X.prog X.w X.K X.mg X.base CX0 k f fd ps (spD X.K X.prog X.w 2 F)) (hb : Binds X.K fd ps []) (hs : PySem.W.findIn X.K (.ref C) "__ne__" = some (some (.builtin "object.__ne__"))) (hm : PySem.W.mroIn X.K C (.type "object") = some true)
    (hn : HN π N H0) (ha : H0 a = some (.ins C dx fv)) (hap : a ≠ π) (hb2 : H0 b = some (.ins C dy gv)) (hbp : b ≠ π) (r : Rv X.K X.prog X.w π (Hide N H0) (.ref a) d) (r2 : Rv X.K X.prog X.w π (Hide N H0) (.ref b) d') (hF : F [d, d'] = .ret (.bl c)) : RcW X σ π H0 (k + 1) (opB nq) (nq ^^ c) (.ref a) (.ref b) := fun A pins s E Q hr hf ⟨H, I, e⟩ hQ => by
  obtain ⟨mA, M, _, _, _, _⟩ := ins_get I.hok (e.kp a _ hap ha)
  obtain ⟨mB, M2, _, _, _, _⟩ := ins_get I.hok (e.kp b _ hbp hb2)
  obtain ⟨od, J, _⟩ := M.look
  obtain ⟨od2, J2, _⟩ := M2.look
  obtain ⟨m, Fr0⟩ := I.fr
  have q1 : Rv X.K X.prog X.w π (Hide N H) (.ref a) d := r.mono e.kp.hide
  have q2 : Rv X.K X.prog X.w π (Hide N H) (.ref b) d' := r2.mono e.kp.hide
  have sp : ∀ (Q : VK) (E : XK), (∀ v H2, v = .bl c → Ex π H0 H2 → Q v H2) → spD X.K X.prog X.w 2 F [.ref a, .ref b] H Q E := fun Q E h => ⟨π, N, [d, d'], hn.ext e, .cons q1 (.cons q2 .nil), rfl, by rw [hF]; exact fun v H' e2 rv => h v H' (by cases rv; rfl) (e.trans e2)⟩
  cases nq with
  | false =>
    refine PySem.W.cmp_K (Nat.lt_of_succ_lt (room_units hr)) Fr0 I.ok.mod.kin J J2.type O.self O.at_ O.fn ?_
    refine wpAny_call (codeAny_mono (G.run A X.stack s H ⟨[.ref a, .ref b], []⟩ [.ref a, .ref b] [.ref a, .ref b] (fun v H2 => v = .bl c ∧ Ex π H0 H2) E0 (hr.mono (Nat.le_succ _)) { I.env0 with frames := hf } (hb s [.ref a, .ref b] I.kIn (G.len _ H (fun _ _ => True) E0 (sp _ _ fun _ _ _ _ => trivial))) (.cons rfl (.cons rfl .nil)) (sp _ _ fun v H2 z1 z2 => ⟨z1, z2⟩)) fun r s' hq => ?_)
    cases r with
    | error er => exact hq.elim
    | ok fl =>
      cases fl with
      | ret u =>
        obtain ⟨v, H', I3, rv, ev, q⟩ := I.after hq
        subst ev
        cases rv
        have z := hQ s' ⟨H', I3, q⟩
        rw [Bool.false_xor] at z
        exact z
      | next => exact False.elim hq
      | brk => exact False.elim hq
      | cont => exact False.elim hq
  | true =>
    refine rc_neIns (room_units hr) I.kIn J J2 hm hs O.at_ O.fn ?_
    refine wpAny_call (codeAny_mono (G.run A.in1 X.stack s H ⟨[.ref a, .ref b], []⟩ [.ref a, .ref b] [.ref a, .ref b] (fun v H2 => v = .bl c ∧ Ex π H0 H2) E0 hr.in1 { I.env0 with frames := hf } (hb s [.ref a, .ref b] I.kIn (G.len _ H (fun _ _ => True) E0 (sp _ _ fun _ _ _ _ => trivial))) (.cons rfl (.cons rfl .nil)) (sp _ _ fun v H2 z1 z2 => ⟨z1, z2⟩)) fun r s' hq => ?_)
    cases r with
    | error er => exact hq.elim
    | ok fl =>
      cases fl with
      | ret u =>
        obtain ⟨v, H', I3, rv, ev, q⟩ := I.after hq
        subst ev
        cases rv
        refine ⟨c, rfl, ?_⟩
        have z := hQ s' ⟨H', I3, q⟩
        rw [Bool.true_xor] at z
        exact z
      | next => exact False.elim hq
      | brk => exact False.elim hq
      | cont => exact False.elim hq
end
theorem all_range_succ (N : Nat) (e : Nat → Bool) : (List.range (N + 1)).all e = (e 0 && (List.range N).all fun i => e (i + 1)) := by
  rw [List.range_succ_eq_map, List.all_cons, List.all_map]
  rfl
/-- which items are alike -/
def eqAt' (E : D → D → Option Bool) (xs ys : List D) (i : Nat) : Bool := match xs[i]?, ys[i]? with
  | some x, some y => (D.eqv E x y).getD false
  | _, _ => false
theorem eqvs_len {E : D → D → Option Bool} : ∀ {xs ys : List D} {b : Bool}, D.eqvs E xs ys = some b → b = ((List.range (min xs.length ys.length)).all (eqAt' E xs ys) && xs.length == ys.length)
  | [], ys, b, h => by
    unfold D.eqvs at h
    cases h
    cases ys <;> rfl
  | x :: xs, [], b, h => by
    unfold D.eqvs at h
    cases h
    rfl
  | x :: xs, y :: ys, b, h => by
    obtain ⟨b1, b2, q, q2, rfl⟩ := eqvs_cons h
    have ih := eqvs_len q2
    have e0 : eqAt' E (x :: xs) (y :: ys) 0 = b1 := by show (D.eqv E x y).getD false = b1; rw [q]; rfl
    have es : (fun i => eqAt' E (x :: xs) (y :: ys) (i + 1)) = eqAt' E xs ys := by funext i; rfl
    rw [List.length_cons, List.length_cons, Nat.succ_min_succ, all_range_succ, e0, es, ih, Bool.and_assoc]
    congr 2
    simp
section
variable {X : Cx} {σ : L2.St} {π : Addr} {H0 : Hp} {N : Addr → Bool} {n k : Nat} {E : D → D → Option Bool}
mutual
/-- one thing is not unlike itself -/
theorem eqv_one (hE : EqOk X k E) (f : Apart X.K π (Hide N H0)) : ∀ {d d2 : D} {v : V}, Rv X.K X.prog X.w π (Hide N H0) v d → Rv X.K X.prog X.w π (Hide N H0) v d2 → D.eqv E d d2 ≠ some false
  | .non, d2, v, r, r2 => by cases r; cases r2; intro h; cases h
  | .bl b, d2, v, r, r2 => by
    cases r; cases r2; intro h
    have z : (b == b) = false := Option.some.inj h
    simp at z
  | .int b, d2, v, r, r2 => by
    cases r; cases r2; intro h
    have z : (b == b) = false := Option.some.inj h
    simp at z
  | .str b, d2, v, r, r2 => by
    cases r; cases r2; intro h
    have z : (b == b) = false := Option.some.inj h
    simp at z
  | .dic _, d2, v, r, r2 => by intro h; unfold D.eqv at h; cases h
  | .pot, d2, v, r, r2 => by intro h; unfold D.eqv at h; cases h
  | .fn _, d2, v, r, r2 => by intro h; unfold D.eqv at h; cases h
  | .rng _, d2, v, r, r2 => by intro h; unfold D.eqv at h; cases h
  | .dik _, d2, v, r, r2 => by intro h; unfold D.eqv at h; cases h
  | .clo _ _, d2, v, r, r2 => by intro h; unfold D.eqv at h; cases h
  | .ins c fs, d2, v, r, r2 => by
    intro h
    cases d2 <;> first | (unfold D.eqv at h; cases h; done) | skip
    rename_i c2 gs
    have h' : E (.ins c fs) (.ins c2 gs) = some false := h
    obtain ⟨fl, _⟩ := hE _ _ _ _ _ h'
    obtain ⟨f1, f2, ne⟩ := fl rfl
    cases r with
    | ins hc e n l => cases r2 with
      | ins hc2 e2 n2 l2 =>
        rw [e] at e2
        cases e2
        exact ne (flatF_one f1 f2 l l2)
  | .lst xs, d2, v, r, r2 => by
    intro h
    cases d2 <;> first | (unfold D.eqv at h; cases h; done) | skip
    cases r with
    | lst e n l => cases r2 with
      | lst e2 n2 l2 =>
        rw [e] at e2
        cases e2
        exact eqvs_one hE f l l2 h
  | .tup xs, d2, v, r, r2 => by
    intro h
    cases d2 <;> first | (unfold D.eqv at h; cases h; done) | skip
    cases r with
    | tup e n l => cases r2 with
      | tup e2 n2 l2 =>
        rw [e] at e2
        cases e2
        exact eqvs_one hE f l l2 h
      | tupK e2 l2 => rw [f.off _ _ e2] at e; cases e
    | tupK e l => cases r2 with
      | tup e2 n2 l2 => rw [f.off _ _ e] at e2; cases e2
      | tupK e2 l2 =>
        have z := f.inj _ _ _ e e2
        subst z
        exact eqvs_one hE f l l2 h
theorem eqvs_one (hE : EqOk X k E) (f : Apart X.K π (Hide N H0)) : ∀ {ds ds2 : List D} {vs : List V}, RvL X.K X.prog X.w π (Hide N H0) vs ds → RvL X.K X.prog X.w π (Hide N H0) vs ds2 → D.eqvs E ds ds2 ≠ some false
  | [], ds2, vs, r, r2 => by
    cases r; cases r2
    intro h; cases h
  | d :: ds, ds2, vs, r, r2 => by
    cases r with
    | cons r t => cases r2 with
      | @cons _ d2 _ es r2 t2 =>
        intro h
        obtain ⟨b1, b2, q, q2, z⟩ := eqvs_cons h
        have n1 := eqv_one hE f r r2
        have n2 := eqvs_one hE f t t2
        cases b1 <;> cases b2 <;> first | exact n1 q | exact n2 q2 | cases z
end
theorem eqv_ins (hE : EqOk X k E) (hn : HN π N H0) {c c2 : Str} {fs gs : List (Str × D)} {v v2 : V} {b : Bool} (nq : Bool) (h : E (.ins c fs) (.ins c2 gs) = some b) (r : Rv X.K X.prog X.w π (Hide N H0) v (.ins c fs)) (r2 : Rv X.K X.prog X.w π (Hide N H0) v2 (.ins c2 gs)) : ∃ a a2, v = .ref a ∧ v2 = .ref a2 ∧ RcW X σ π H0 (k + 1) (opB nq) (nq ^^ b) (.ref a) (.ref a2) := by
  obtain ⟨_, C, f, fd, ps, F, at1, at2, O, G, B, hF, hne, hm⟩ := hE c c2 fs gs b h
  have r0 := r
  have r02 := r2
  cases r with
  | ins hc e n _ => cases r2 with
    | ins hc2 e2 n2 _ =>
      have z1 := at1.one hc
      subst z1
      have z2 := at2.one hc2
      subst z2
      exact ⟨_, _, rfl, rfl, .insE nq O G B hne hm hn (hide_some e).2 n (hide_some e2).2 n2 r0 r02 hF⟩
theorem RcW.up {m n : Nat} {op : CmpOp} {b : Bool} {u w : Value} (h : RcW X σ π H0 m op b u w) (l : m ≤ n) : RcW X σ π H0 n op b u w := fun A pins s E Q hr => h A pins s E Q (hr.mono l)
theorem RcW.to {m n : Nat} {op : CmpOp} {b c : Bool} {u w : Value} (h : RcW X σ π H0 m op b u w) (e : b = c) (l : m ≤ n) : RcW X σ π H0 n op c u w := by
  subst e
  exact h.up l
mutual
theorem eqv_run (hE : EqOk X k E) (hn : HN π N H0) (f : Apart X.K π (Hide N H0)) : ∀ {d d2 : D} {v v2 : V} {b : Bool}, D.eqv E d d2 = some b → Rv X.K X.prog X.w π (Hide N H0) v d → Rv X.K X.prog X.w π (Hide N H0) v2 d2 → ∀ u u2, RelV v u → RelV v2 u2 → EqC X σ π H0 (k + 1 + D.hgt d) b u u2
  | .non, d2, v, v2, b, h, r, r2 => fun u u2 ru ru2 => by
    cases d2 <;> first | (cases h; done) | skip
    cases r; cases r2; cases h
    exact .flat ru ru2 rfl rfl rfl
  | .bl a, d2, v, v2, b, h, r, r2 => fun u u2 ru ru2 => by
    cases d2 <;> first | (cases h; done) | skip
    cases r; cases r2
    exact .flat ru ru2 rfl rfl (Option.some.inj h)
  | .int a, d2, v, v2, b, h, r, r2 => fun u u2 ru ru2 => by
    cases d2 <;> first | (cases h; done) | skip
    cases r; cases r2
    exact .flat ru ru2 rfl rfl (Option.some.inj h)
  | .str a, d2, v, v2, b, h, r, r2 => fun u u2 ru ru2 => by
    cases d2 <;> first | (cases h; done) | skip
    cases r; cases r2
    exact .flat ru ru2 rfl rfl (Option.some.inj h)
  | .dic _, d2, v, v2, b, h, r, r2 => by unfold D.eqv at h; cases h
  | .pot, d2, v, v2, b, h, r, r2 => by unfold D.eqv at h; cases h
  | .fn _, d2, v, v2, b, h, r, r2 => by unfold D.eqv at h; cases h
  | .rng _, d2, v, v2, b, h, r, r2 => by unfold D.eqv at h; cases h
  | .dik _, d2, v, v2, b, h, r, r2 => by unfold D.eqv at h; cases h
  | .clo _ _, d2, v, v2, b, h, r, r2 => by unfold D.eqv at h; cases h
  | .ins c fs, d2, v, v2, b, h, r, r2 => fun u u2 ru ru2 => by
    cases d2 <;> first | (unfold D.eqv at h; cases h; done) | skip
    have one := fun e : b = false => (fun z : v = v2 => eqv_one hE f r (z ▸ r2) (e ▸ h))
    obtain ⟨a, a2, rfl, rfl, q⟩ := eqv_ins (σ := σ) hE hn false h r r2
    cases ru; cases ru2
    exact (q.to (Bool.false_xor b) (Nat.le_add_right _ _)).eqC fun e z => one e (congrArg V.ref z)
  | .lst xs, d2, v, v2, b, h, r, r2 => fun u u2 ru ru2 => by
    cases d2 <;> first | (unfold D.eqv at h; cases h; done) | skip
    rename_i ys
    have one := fun e : b = false => (fun z : v = v2 => eqv_one hE f r (z ▸ r2) (e ▸ h))
    cases r with
    | lst e n l => cases r2 with
      | lst e2 n2 l2 =>
        cases ru; cases ru2
        refine (RcW.to (RcW.listE false (hide_some e).2 n (hide_some e2).2 n2 (eqvs_run hE hn f h l l2)) ?_ (Nat.le_refl _)).eqC fun e z => one e (congrArg V.ref z)
        rw [Bool.false_xor, l.length, l2.length, eqvs_len h]
        by_cases q : xs.length = ys.length
        · rw [if_pos q, ← q, Nat.min_self]
          simp
        · rw [if_neg q]
          simp [q]
  | .tup xs, d2, v, v2, b, h, r, r2 => fun u u2 ru ru2 => by
    cases d2 <;> first | (unfold D.eqv at h; cases h; done) | skip
    have one := fun e : b = false => (fun z : v = v2 => eqv_one hE f r (z ▸ r2) (e ▸ h))
    obtain ⟨a, vs, rfl, hS, l⟩ := tup_ex r
    obtain ⟨a2, ws, rfl, hS2, l2⟩ := tup_ex r2
    cases ru; cases ru2
    refine (RcW.to (RcW.tupE false hS hS2 (eqvs_run hE hn f h l l2)) ?_ (Nat.le_refl _)).eqC fun e z => one e (congrArg V.ref z)
    rw [Bool.false_xor, l.length, l2.length, ← eqvs_len h]
theorem eqvs_run (hE : EqOk X k E) (hn : HN π N H0) (f : Apart X.K π (Hide N H0)) : ∀ {ds ds2 : List D} {vs vs2 : List V} {b : Bool}, D.eqvs E ds ds2 = some b → RvL X.K X.prog X.w π (Hide N H0) vs ds → RvL X.K X.prog X.w π (Hide N H0) vs2 ds2 → EqsC X σ π H0 (k + 1 + D.hgts ds) (eqAt' E ds ds2) vs vs2
  | [], ds2, vs, vs2, b, h, r, r2 => by
    cases r
    exact fun i x y z => by simp at z
  | d :: ds, ds2, vs, vs2, b, h, r, r2 => by
    cases ds2 with
    | nil =>
      cases r2
      exact fun i x y _ z => by simp at z
    | cons d2 ds2 =>
      obtain ⟨b1, b2, q, q2, rfl⟩ := eqvs_cons h
      cases r with
      | cons r l => cases r2 with
        | cons r2 l2 =>
          have T := eqvs_run hE hn f q2 l l2
          intro i x y z1 z2
          cases i with
          | zero =>
            cases z1; cases z2
            have e0 : eqAt' E (d :: ds) (d2 :: ds2) 0 = b1 := by show (D.eqv E d d2).getD false = b1; rw [q]; rfl
            rw [e0]
            exact fun u u2 ru ru2 => (eqv_run hE hn f q r r2 u u2 ru ru2).mono (Nat.add_le_add_left (Nat.le_max_left _ _) _)
          | succ i => exact fun u u2 ru ru2 => (T i x y z1 z2 u u2 ru ru2).mono (Nat.add_le_add_left (Nat.le_max_right _ _) _)
end
/-- x == y, x != y of data that hold instances -/
def opEqD (n : Bool) (E : D → D → Option Bool) (x y : D) : T D := cond (isBig x && decide (D.hgt x ≤ 6)) (match D.eqv E x y with
  | some b => .ret (.bl (n ^^ b))
  | none => .fail) .fail
theorem bigE_run {d d2 : D} {v v2 : V} {b : Bool} (nq : Bool) (hE : EqOk X k E) (hn : HN π N H0) (f : Apart X.K π (Hide N H0)) (h : D.eqv E d d2 = some b) (hb : isBig d = true) (r : Rv X.K X.prog X.w π (Hide N H0) v d) (r2 : Rv X.K X.prog X.w π (Hide N H0) v2 d2) :
    ∃ a a2, v = .ref a ∧ v2 = .ref a2 ∧ RcW X σ π H0 (k + 1 + D.hgt d + 1) (opB nq) (nq ^^ b) (.ref a) (.ref a2) := by
  cases d with
  | lst xs =>
    cases d2 <;> first | (unfold D.eqv at h; cases h; done) | skip
    rename_i ys
    cases r with
    | lst e n l => cases r2 with
      | lst e2 n2 l2 =>
        refine ⟨_, _, rfl, rfl, RcW.to (RcW.listE nq (hide_some e).2 n (hide_some e2).2 n2 (eqvs_run hE hn f h l l2)) ?_ (Nat.le_succ _)⟩
        rw [l.length, l2.length, eqvs_len h]
        by_cases q : xs.length = ys.length
        · rw [if_pos q, ← q, Nat.min_self]
          simp
        · rw [if_neg q]
          rw [show (xs.length == ys.length) = false from by simp [q]]
          simp
  | tup xs =>
    cases d2 <;> first | (unfold D.eqv at h; cases h; done) | skip
    obtain ⟨a, vs, rfl, hS, l⟩ := tup_ex r
    obtain ⟨a2, ws, rfl, hS2, l2⟩ := tup_ex r2
    refine ⟨_, _, rfl, rfl, RcW.to (RcW.tupE nq hS hS2 (eqvs_run hE hn f h l l2)) ?_ (Nat.le_succ _)⟩
    rw [l.length, l2.length, ← eqvs_len h]
  | ins c fs =>
    cases d2 <;> first | (unfold D.eqv at h; cases h; done) | skip
    obtain ⟨a, a2, e1, e2, q⟩ := eqv_ins (σ := σ) hE hn nq h r r2
    exact ⟨a, a2, e1, e2, q.up (by omega)⟩
  | _ => cases hb
theorem os_eqD (nq : Bool) (hE : EqOk X k E) (hr : Room (k + 8) X.A) : OpSnd X (compareOp (opB nq)) (opEqD nq E) := fun {π N H x y dx dy Q} hn rx ry h => by
  obtain ⟨hb, h⟩ := cond_all h
  simp only [Bool.and_eq_true, decide_eq_true_eq] at hb
  obtain ⟨b2, b3⟩ := hb
  cases q : D.eqv E dx dy with
  | none => rw [q] at h; exact False.elim h
  | some b =>
    rw [q] at h
    refine ⟨fun x' y' H' Q => x' = x ∧ y' = y ∧ H' = H ∧ ∀ H2, Ex π H H2 → Q (.bl (nq ^^ b)) H2, ?_, rfl, rfl, rfl, fun H2 e => h _ _ e (.bl _)⟩
    intro pins s σ H1 x' y' v u Q I r1 r2 qq
    obtain ⟨rfl, rfl, rfl, hq⟩ := qq
    have f : Apart X.K π (Hide N H1) := Apart.of I hn.pot
    obtain ⟨a, a2, rfl, rfl, t⟩ := bigE_run (σ := σ) nq hE hn f q b2 rx ry
    cases r1
    cases r2
    have room : Room (k + 1 + D.hgt dx + 1) X.A := hr.mono (by omega)
    have G : Goes X σ π H1 pins s := ⟨H1, I, Ex.refl hn.pot⟩
    have fin := t X.A pins s X.xe (fun v s' => ∃ (w : V) (H' : Hp), Inv X pins σ H' s' ∧ RelV w v ∧ Q w H') room I.env0.frames G fun s' ⟨H', I', e'⟩ => ⟨.bl (nq ^^ b), H', I', rfl, hq _ e'⟩
    cases nq with
    | false => exact fin
    | true => exact fin
end
end Pd
namespace Pd
open PySem L2 PySem.Spec PyProof.Rows
section
variable {P : Program} {w : World} {K : PySem.W.Frag} {mg : Str → Option Value} {base : Heap}
def EqP (P : Program) (w : World) (K : PySem.W.Frag) (mg : Str → Option Value) (base : Heap) (k : Nat) (E : D → D → Option Bool) : Prop := ∀ (c c2 : Str) (fs gs : List (Str × D)) (b : Bool), E (.ins c fs) (.ins c2 gs) = some b → (b = false → flatF fs = true ∧ flatF gs = true ∧ fs ≠ gs) ∧ ∃ (C f : Addr) (fd : FuncData) (ps : List Str) (F : List D → T D), ClsAt K c C ∧ ClsAt K c2 C ∧ CmpOwn K C .Eq f ∧ FnOk P w K mg base CX0 k f fd ps (spD K P w 2 F) ∧ Binds K fd ps [] ∧ F [.ins c fs, .ins c2 gs] = .ret (.bl b) ∧
  PySem.W.findIn K (.ref C) "__ne__" = some (some (.builtin "object.__ne__")) ∧ PySem.W.mroIn K C (.type "object") = some true
theorem EqP.ok {X : Cx} {k : Nat} {E : D → D → Option Bool} (h : EqP X.prog X.w X.K X.mg X.base k E) : EqOk X k E := h
def flatEq : List (Str × D) → List (Str × D) → Bool
  | [], [] => true
  | (_, .int i) :: r, (_, .int j) :: s => i == j && flatEq r s
  | _, _ => false
theorem flatEq_self : ∀ {fs : List (Str × D)}, flatF fs = true → flatEq fs fs = true
  | [], _ => rfl
  | (x, d) :: fs, h => by
    cases d <;> first | (exact absurd h Bool.false_ne_true) | skip
    show (_ == _ && flatEq fs fs) = true
    rw [flatEq_self (fs := fs) h]
    simp
/-- == of the instances of one class -/
def eCls (c0 : Str) (F : List D → T D) (x y : D) : Option Bool := match x, y with
  | .ins c fs, .ins c2 gs => if (c == c0 && c2 == c0) = true then (match F [.ins c fs, .ins c2 gs] with
    | .ret (.bl true) => some true
    | .ret (.bl false) => if (flatF fs && flatF gs && !flatEq fs gs) = true then some false else none
    | _ => none) else none
  | _, _ => none
theorem EqP.of {k : Nat} {c0 : Str} {F : List D → T D} (h : PmE P w K mg base c0 .Eq k F) (h1 : ∀ C, ClsAt K c0 C → PySem.W.findIn K (.ref C) "__ne__" = some (some (.builtin "object.__ne__")) ∧ PySem.W.mroIn K C (.type "object") = some true) : EqP P w K mg base k (eCls c0 F) := fun c c2 fs gs b hb => by
  unfold eCls at hb
  simp only at hb
  split at hb
  · rename_i e
    simp only [Bool.and_eq_true, beq_iff_eq] at e
    obtain ⟨rfl, rfl⟩ := e
    obtain ⟨C, f, fd, ps, at_, O, G, B⟩ := h
    obtain ⟨n1, n2⟩ := h1 C at_
    split at hb
    · rename_i q
      cases hb
      exact ⟨(fun z => by cases z), C, f, fd, ps, F, at_, at_, O, G, B, q, n1, n2⟩
    · rename_i q
      split at hb
      · rename_i fl
        cases hb
        simp only [Bool.and_eq_true, Bool.not_eq_true'] at fl
        obtain ⟨⟨f1, f2⟩, f3⟩ := fl
        exact ⟨fun _ => ⟨f1, f2, fun z => by rw [z, flatEq_self f2] at f3; cases f3⟩, C, f, fd, ps, F, at_, at_, O, G, B, q, n1, n2⟩
      · cases hb
    · cases hb
  · cases hb
def eOr2 (E E' : D → D → Option Bool) (x y : D) : Option Bool := match E x y with
  | some b => some b
  | none => E' x y
theorem EqP.or {k : Nat} {E E' : D → D → Option Bool} (h : EqP P w K mg base k E) (h' : EqP P w K mg base k E') : EqP P w K mg base k (eOr2 E E') := fun c c2 fs gs b hb => by
  unfold eOr2 at hb
  split at hb
  · rename_i b' q
    cases hb
    exact h c c2 fs gs _ q
  · exact h' c c2 fs gs b hb
theorem EqP.mono {k j : Nat} {E : D → D → Option Bool} (h : EqP P w K mg base k E) (l : k ≤ j) : EqP P w K mg base j E := fun c c2 fs gs b hb => by
  obtain ⟨a, C, f, fd, ps, F, r1, r2, r3, G, r⟩ := h c c2 fs gs b hb
  exact ⟨a, C, f, fd, ps, F, r1, r2, r3, G.mono l, r⟩
end
end Pd
namespace Pd
open PySem L2 PySem.Spec PyProof.Rows
def PmMR (P : Program) (w : World) (K : PySem.W.Frag) (mg : Str → Option Value) (base : Heap) (c m : Str) (k : Nat) (ps : List Str) (F : List D → T (List D)) : Prop := ∃ (C a : Addr) (fd : FuncData), ClsAt K c C ∧ Cls K C ∧ Meth K C m a ∧ FnOk P w K mg base CX0 k a fd ps (spR K P w 1 F) ∧ Binds K fd ps []
theorem PmMR.pm {P : Program} {w : World} {K : PySem.W.Frag} {mg : Str → Option Value} {base : Heap} {c m : Str} {k : Nat} {ps : List Str} {F : List D → T (List D)} (h : PmMR P w K mg base c m k ps F) : PmM P w K mg base c m k 0 ps (asD F) :=
  let ⟨C, a, fd, h1, h2, h3, G, B⟩ := h
  ⟨C, a, fd, h1, h2, h3, G.imp spR_of, B⟩
def lMeth (c m : Str) (F : List D → T (List D)) (ma : Rho → T D) : Rho → T (List D) := fun ρ => (ma ρ).bind fun d => (insD c m d).bind fun _ => F [d]
section
variable {X : Cx} {pos : Pos} {k : Nat} {ps : List Str} {F : List D → T (List D)}
theorem sl_methR {c me : Str} {o : Expr} {mo : Rho → T D} {apos : Pos} {pl : Sem Bool} (h : PmMR X.prog X.w X.K X.mg X.base c me k ps F) (hr : Room k X.A) (ho : Snd X o mo)
    (ht : eval (.Call (.Attribute o me apos) [] [] pos) X.env = (do
      let ov ← eval o X.env
      standAt apos.atName
      let (f, first) ← holding [ov] (getMethod ov me pl)
      callWith pos f first (backTo pos (starEach [] X.env)) (backToKw pos (keywordEach [] X.env))) := by rfl) :
    SndL X (.Call (.Attribute o me apos) [] [] pos) (lMeth c me F mo) := fun {π N0 H0 N H σ ρ Q} I h' => by
  obtain ⟨C, f, fd, at_, cl, hm, G, B⟩ := h
  exact ⟨_, pe_meth0 (pl := pl) pe_wp cl hm G hr B .nil pass0 ht, ho I (T.all_mono (fun d hd => by
    intro x H1 e1 rx
    obtain ⟨fs, rfl, nf, hd⟩ := insD_all (T.all_bind.mp hd)
    obtain ⟨a, dx, C2, fv, rfl, hc, hx, rf⟩ := id rx.insE
    have e3 := at_.one hc
    subst e3
    refine ⟨a, dx, fv, rfl, hx, rf.none_of nf, ?_⟩
    show spR X.K X.prog X.w 1 F ([.ref a] ++ []) H1 Q E0
    rw [List.append_nil]
    exact ⟨π, N, _, I.hn.ext e1, .cons rx .nil, rfl, T.all_mono (fun es q => q.up e1 I.hn.pot) hd⟩) (T.all_bind.mp h'))⟩
end
end Pd
namespace Pd
open PySem L2 PySem.Spec PyProof.Rows
section
variable {X : Cx}
theorem op_cmpLst {op : CmpOp} {k : Nat} {C f : Addr} {fd : FuncData} {ps : List Str} {F : List D → T D} (hop : op ≠ .Is ∧ op ≠ .IsNot ∧ op ≠ .In ∧ op ≠ .NotIn) (O : CmpOwn X.K C op f) (hl : PySem.W.notFirst X.K C (.type "list") = true) (G : FnOk X.prog X.w X.K X.mg X.base CX0 k f fd ps (spD X.K X.prog X.w 2 F)) (hr : Room k X.A) (hb : Binds X.K fd ps []) :
    OpR X (compareOp op) (fun x y H Q => ∃ a dx fv b ys, x = .ref a ∧ H a = some (.ins C dx fv) ∧ y = .ref b ∧ H b = some (.lst ys) ∧ spD X.K X.prog X.w 2 F [x, y] H Q E0) := by
  intro pins s σ H x y v u Q I rx ry h
  obtain ⟨a, dx, fv, b, ys, rfl, ha, rfl, hb2, h⟩ := h
  cases rx
  cases ry
  obtain ⟨mA, M, _, _, _, _⟩ := ins_get I.hok ha
  obtain ⟨od, J, _⟩ := M.look
  obtain ⟨m, Fr0⟩ := I.fr
  have hu : X.A.units < cLine := by have := hr.un; omega
  have call1 := run_fn (dvs := []) (ds := []) G hr hb .nil pass0 I (vs := [.ref a, .ref b]) (us := [.ref a, .ref b]) (.cons rfl (.cons rfl .nil)) h
  have call2 := wpAny_mono call1 (fun r s2 hs => by
    obtain ⟨v2, H2, I2, rv, q⟩ := hs
    exact back_of (Q := EP X pins σ Q) rv ⟨v2, H2, I2, rv, q⟩) fun _ _ z => z
  obtain ⟨_, _, n, _, h1⟩ := (show ObjOk X.prog X.w H s.heap b (.lst ys) from I.hok b _ hb2)
  have lk : PySem.W.Looks (model X.prog X.w) s.heap (typeOf (.ref b)) (.type "list") := (PySem.W.Looks.ld h1).andThen .now
  have z := PySem.W.cmp_K hu Fr0 I.ok.mod.kin J lk hl O.at_ O.fn call2
  cases op with
  | Is => exact absurd rfl hop.1
  | IsNot => exact absurd rfl hop.2.1
  | In => exact absurd rfl hop.2.2.1
  | NotIn => exact absurd rfl hop.2.2.2
  | _ => exact z
def cmpLst (c : Str) (F : List D → T D) (x y : D) : T D := match y with
  | .lst ys => (isC c x).bind fun _ => F [x, .lst ys]
  | _ => .fail
theorem os_cmpLst {op : CmpOp} {k : Nat} {c : Str} {F : List D → T D} (hop : op ≠ .Is ∧ op ≠ .IsNot ∧ op ≠ .In ∧ op ≠ .NotIn) (h : PmE X.prog X.w X.K X.mg X.base c op k F) (hr : Room k X.A) (hl : ∀ C, ClsAt X.K c C → PySem.W.notFirst X.K C (.type "list") = true) : OpSnd X (compareOp op) (cmpLst c F) := fun {π N H x y dx dy Q} hn rx ry q => by
  obtain ⟨C, f, fd, ps, at_, O, G, B⟩ := h
  have h := q
  unfold cmpLst at h
  split at h
  · rename_i ys
    obtain ⟨fs, rfl, h⟩ := isC_all (T.all_bind.mp h)
    obtain ⟨a, d1, C2, fv, rfl, hc, hx, rf⟩ := id rx.insE
    have e3 := at_.one hc
    subst e3
    obtain ⟨b, vs, rfl, hy, _, _, r⟩ := id ry.lstE
    exact ⟨_, op_cmpLst hop O (hl _ at_) G hr B, a, d1, fv, b, vs, rfl, hx, rfl, hy, π, N, _, hn, .cons rx (.cons ry .nil), rfl, h⟩
  · exact False.elim h
end
end Pd
namespace Pd
open PySem L2 PySem.Spec PyProof.Rows
theorem RvL.setAt {K : PySem.W.Frag} {P : Program} {w : World} {π : Addr} {H : Hp} {v : V} {d : D} (r : Rv K P w π H v d) : ∀ {vs : List V} {ds : List D} {j : Nat}, RvL K P w π H vs ds → RvL K P w π H (vs.set j v) (ds.set j d)
  | _, _, _, .nil => .nil
  | _, _, 0, .cons _ t => .cons r t
  | _, _, j + 1, .cons q t => .cons q (RvL.setAt (j := j) r t)
end Pd
namespace Pd
open PySem L2 PySem.Spec PyProof.Rows
def sIns (i : Nat) (mk mv : Rho → T D) : Rho → T Out := fun ρ => match ρ[i]? with
  | some (.own ds) => (mk ρ).bind fun dk => (mv ρ).bind fun dv => match dk with
    | .int k => cond (decide (0 ≤ k) && decide (k ≤ 9000) && small ds) (.ret (.nx (ρ.set i (.own (ds.take k.toNat ++ [dv] ++ ds.drop k.toNat))))) .fail
    | _ => .fail
  | _ => .fail
def sDel (i : Nat) (mk : Rho → T D) : Rho → T Out := fun ρ => match ρ[i]? with
  | some (.own ds) => (mk ρ).bind fun dk => match dk with
    | .int k => cond (small ds) (match ixN ds.length k with
      | some j => .ret (.nx (ρ.set i (.own (ds.eraseIdx j))))
      | none => .fail) .fail
    | _ => .fail
  | _ => .fail
theorem RvL.erase {K : PySem.W.Frag} {P : Program} {w : World} {π : Addr} {H : Hp} : ∀ {vs : List V} {ds : List D} {j : Nat}, RvL K P w π H vs ds → RvL K P w π H (vs.eraseIdx j) (ds.eraseIdx j)
  | _, _, _, .nil => .nil
  | _, _, 0, .cons _ t => t
  | _, _, j + 1, .cons q t => .cons q (RvL.erase (j := j) t)
section
variable {X : Cx} {ve ke : Expr} {mv mk : Rho → T D} {pos : Pos}
theorem ss_ins {i : Nat} {x : Str} {p apos cpos : Pos} (hke : Snd X ke mk) (hve : Snd X ve mv) (hN : X.N[i]? = some x := by rfl) (hv : Vis X.env.scope x := by first | exact Or.inl rfl | exact Or.inr (Or.inl rfl) | exact Or.inr (Or.inr rfl)) (hd : (x == ("__debug__" : Str)) = false := by decide)
    (hcd : (x == ("__classdict__" : Str)) = false := by decide) (hse : starEach [ke, ve] X.env = (false, eval ke X.env) :: starEach [ve] X.env := by rfl) (hse2 : starEach [ve] X.env = (false, eval ve X.env) :: starEach [] X.env := by rfl) (hpl : (backTo cpos (starEach [ve] X.env)).any (·.1) = false := by rfl)
    (hs : swapsWith (.Call (.Attribute (.Name x p) "insert" apos) [ke, ve] [] cpos) none pos.line X.env = pure false := by rfl) (hfew : ((((backTo cpos (starEach [ke, ve] X.env)).all fun x => !x.fst) && (backToKw cpos (keywordEach [] X.env)).all fun x => x.fst.isSome) && decide (([ke, ve].length + ([] : List Keyword).length + if ([] : List Keyword).isEmpty = true then 0 else 1) < 30)) = true := by rfl) (hline : (apos.endLine == cpos.line) = true := by rfl) :
    SndS X (.Expr (.Call (.Attribute (.Name x p) "insert" apos) [ke, ve] [] cpos) pos) (sIns i mk mv) := fun {π N0 H0 N H σ ρ De} I h => by
  unfold sIns at h
  split at h
  · rename_i ds c
    obtain ⟨l, vs, hs1, nl, n0, hl, rl⟩ := I.lst i ds c
    refine ⟨_, ps_expr (pe_bm PySem.F.plainAttrs_list PySem.F.slot_list_insert PySem.F.type_list_insert mt_insert (pe_var hN hv hd hcd) (pa_cons pe_wp (pa_cons pe_wp pa_nil hse2) hse) (hfew := hfew) (hline := hline) (hs := hse) (hplain := hpl)) hs, .ref l, hs1, .inl ⟨rfl, _, SqL.of hl⟩, ?_⟩
    refine hke I (T.all_mono (fun dk hdk => ?_) (T.all_bind.mp h))
    intro y H1 e1 r1
    refine hve (I.ext e1) (T.all_mono (fun dv hdv => ?_) (T.all_bind.mp hdk))
    intro v H2 e2 r2
    split at hdv
    · rename_i k
      obtain ⟨hb, hdv⟩ := cond_all hdv
      simp only [Bool.and_eq_true, decide_eq_true_eq] at hb
      cases r1
      have e12 := e1.trans e2
      have hl2 := e12.kp l _ (N_ne I.hn nl) hl
      have rl2 := rl.mono e12.kp.hide
      refine ⟨l, vs, k, v, rfl, rfl, hl2, ?_, hb.1.1, by omega, ?_⟩
      · rw [rl.length]
        exact Nat.lt_of_le_of_lt (of_decide_eq_true hb.2) (by decide)
      · exact hdv _ _ _ ((I.ext e12).upAny c rfl hs1 nl n0 (.inl ⟨_, _, rfl, rfl, ((rl2.take k.toNat).append (.cons r2 .nil)).append (rl2.drop k.toNat)⟩))
    · exact False.elim hdv
  · exact False.elim h
theorem ss_del {i : Nat} {x : Str} {p tpos : Pos} (hke : Snd X ke mk) (hN : X.N[i]? = some x := by rfl) (hv : Vis X.env.scope x := by first | exact Or.inl rfl | exact Or.inr (Or.inl rfl) | exact Or.inr (Or.inr rfl)) (hd : (x == ("__debug__" : Str)) = false := by decide)
    (hcd : (x == ("__classdict__" : Str)) = false := by decide) : SndS X (.Delete [.Subscript (.Name x p) ke tpos] pos) (sDel i mk) := fun {π N0 H0 N H σ ρ De} I h => by
  unfold sDel at h
  split at h
  · rename_i ds c
    obtain ⟨l, vs, hs1, nl, n0, hl, rl⟩ := I.lst i ds c
    refine ⟨_, ps_delL (pe_var hN hv hd hcd) pe_wp, .ref l, hs1, ?_⟩
    refine hke I (T.all_mono (fun dk hdk => ?_) (T.all_bind.mp h))
    intro y H1 e1 r1
    split at hdk
    · rename_i k
      obtain ⟨hb, hdk⟩ := cond_all hdk
      split at hdk
      · rename_i j hj
        cases r1
        have hl2 := e1.kp l _ (N_ne I.hn nl) hl
        have rl2 := rl.mono e1.kp.hide
        obtain ⟨q1, q2, q3, q4⟩ := ixN_seq hj
        have hz : ds.length < 2 ^ 62 := Nat.lt_of_le_of_lt (of_decide_eq_true hb) (by decide)
        refine ⟨l, vs, k, j, rfl, rfl, hl2, by omega, by omega, by rw [rl.length]; exact q1, hdk _ _ _ ((I.ext e1).upAny c rfl hs1 nl n0 (.inl ⟨_, _, rfl, rfl, rl2.erase⟩))⟩
      · exact False.elim hdk
    · exact False.elim hdk
  · exact False.elim h
end
end Pd
namespace Pd
open PySem L2 PySem.Spec PyProof.Rows
/-- what is written stands not in the tracked heap -/
def NK (K : PySem.W.Frag) (H : Hp) : Prop := ∀ a o, K.lookup a = some o → H a = none
section
variable {K : PySem.W.Frag} {P : Program} {w : World} {π : Addr} {H : Hp}
theorem hide_none {N : Addr → Bool} {a : Addr} (h : H a = none) : Hide N H a = none := by
  unfold Hide
  split
  · rfl
  · exact h
theorem NK.hide {N : Addr → Bool} (h : NK K H) : NK K (Hide N H) := fun a o e => hide_none (h a o e)
end
end Pd
namespace Pd
open PySem L2 PySem.Spec PyProof.Rows
section
variable {X : Cx} {a b ke k2 va vb : Expr} {ma mb mk mk2 : Rho → T D} {pos : Pos}
def sSet2 (i : Nat) (mk mk2 ma mb : Rho → T D) : Rho → T Out := fun ρ => match ρ[i]? with
  | some (.own ds) => (ma ρ).bind fun da => (mb ρ).bind fun db => (mk ρ).bind fun dk => match dk with
    | .int k => match ixN ds.length k with
      | some j => (mk2 (ρ.set i (.own (ds.set j da)))).bind fun dm => match dm with
        | .int m => match ixN (ds.set j da).length m with
          | some j2 => .ret (.nx (ρ.set i (.own ((ds.set j da).set j2 db))))
          | none => .fail
        | _ => .fail
      | none => .fail
    | _ => .fail
  | _ => .fail
theorem ss_set2 (hc : X.calm = true) (i : Nat) {x : Str} {p p2 q1 q2 pt pt2 : Pos} {kt k3} (hva : Snd X va ma) (hvb : Snd X vb mb) (hk1 : Snd X ke mk) (hk2 : Snd X k2 mk2) (hN : X.N[i]? = some x := by rfl) (hv : Vis X.env.scope x := by first | exact Or.inl rfl | exact Or.inr (Or.inl rfl) | exact Or.inr (Or.inr rfl))
    (hd : (x == ("__debug__" : Str)) = false := by decide) (hcd : (x == ("__classdict__" : Str)) = false := by decide)
    (hse : starEach [va, vb] X.env = (false, eval va X.env) :: starEach [vb] X.env := by rfl) (hse2 : starEach [vb] X.env = (false, eval vb X.env) :: starEach [] X.env := by rfl) (hpl : (starEach [va, vb] X.env).any (·.1) = false := by rfl)
    (hs : swapsWithSole [.Tuple [.Subscript (.Name x p) ke q1, .Subscript (.Name x p2) k2 q2] kt pt] (.Tuple [va, vb] k3 pt2) pos.line X.env = pure false := by rfl) (hw : swappedStores [.Tuple [.Subscript (.Name x p) ke q1, .Subscript (.Name x p2) k2 q2] kt pt] (.Tuple [va, vb] k3 pt2) X.env = pure none := by rfl)
    (h1 : (assignEach [.Tuple [.Subscript (.Name x p) ke q1, .Subscript (.Name x p2) k2 q2] kt pt] X.env).map (·.2) = [assign (.Tuple [.Subscript (.Name x p) ke q1, .Subscript (.Name x p2) k2 q2] kt pt) X.env] := by rfl)
    (hn : (assignEach [.Subscript (.Name x p) ke q1, .Subscript (.Name x p2) k2 q2] X.env).length = 2 := by rfl) (hst : (assignEach [.Subscript (.Name x p) ke q1, .Subscript (.Name x p2) k2 q2] X.env).findIdx? (·.1) = none := by rfl)
    (hc1 : (assignEach [.Subscript (.Name x p) ke q1, .Subscript (.Name x p2) k2 q2] X.env).map (·.2) = assign (.Subscript (.Name x p) ke q1) X.env :: (assignEach [.Subscript (.Name x p2) k2 q2] X.env).map (·.2) := by rfl) (hc2 : (assignEach [.Subscript (.Name x p2) k2 q2] X.env).map (·.2) = assign (.Subscript (.Name x p2) k2 q2) X.env :: (assignEach [] X.env).map (·.2) := by rfl)
    (ha : ∀ v, assign (.Subscript (.Name x p) ke q1) X.env v = (do
      let ov ← holding [v] (eval (.Name x p) X.env)
      let iv ← holding [v, ov] (eval ke X.env)
      standAt q1
      holding [v, ov, iv] (setItem ov iv v)
      release [v, ov, iv] []) := by intro _; rfl)
    (ha2 : ∀ v, assign (.Subscript (.Name x p2) k2 q2) X.env v = (do
      let ov ← holding [v] (eval (.Name x p2) X.env)
      let iv ← holding [v, ov] (eval k2 X.env)
      standAt q2
      holding [v, ov, iv] (setItem ov iv v)
      release [v, ov, iv] []) := by intro _; rfl)
    (tup : SndA X [va, vb] (aCons ma (aCons mb aNil)) → Snd X (.Tuple [va, vb] k3 pt2) (eTup (aCons ma (aCons mb aNil))) := by exact fun q => s_tup q) :
    SndS X (.Assign [.Tuple [.Subscript (.Name x p) ke q1, .Subscript (.Name x p2) k2 q2] kt pt] (.Tuple [va, vb] k3 pt2) pos) (sSet2 i mk mk2 ma mb) := fun {π N0 H0 N H σ ρ De} I h =>
  ⟨_, ps_asg pe_wp (pg_tup hc (pgs_cons (pg_sub (pe_var (pos := p) hN hv hd hcd) pe_wp set_list ha) (pgs_cons (pg_sub (pe_var (pos := p2) hN hv hd hcd) pe_wp set_list ha2) pgs_nil hc2) hc1) hn hst) hs hw h1, by
  unfold sSet2 at h
  split at h
  · rename_i ds c
    refine tup (sa_cons hva (sa_cons hvb sa_nil hse2) hse) I ?_
    unfold eTup aCons aNil
    refine T.all_bind.mpr (T.all_bind.mpr (T.all_mono (fun da hda => T.all_bind.mpr (T.all_bind.mpr (T.all_mono (fun db hdb => T.all_bind.mpr ?_) (T.all_bind.mp hda)))) (T.all_bind.mp h)))
    show (cond (small [da, db]) (T.ret (D.tup [da, db])) .fail).all _
    have s2 : small [da, db] = true := decide_eq_true (by simp)
    rw [s2]
    intro v H1 e1 r1
    have I1 := I.ext e1
    obtain ⟨a, vs, rfl, hta, ra⟩ := id r1.tupE
    cases ra with
    | cons ra1 t =>
    rename_i v1 vt
    cases t with
    | cons ra2 t =>
    rename_i v2 vt2
    cases t
    refine ⟨a, [v1, v2], rfl, hta, rfl, v1, [v2], rfl, ?_⟩
    obtain ⟨l, us, hs1, nl, n0, hl, rl⟩ := I1.lst i ds c
    refine ⟨.ref l, hs1, hk1 I1 (T.all_mono (fun dk hdk => ?_) (T.all_bind.mp hdb))⟩
    intro y H2 e2 r2
    split at hdk
    · split at hdk
      · rename_i k j hj
        cases r2
        have hl2 := e2.kp l _ (N_ne I1.hn nl) hl
        have rl2 := rl.mono e2.kp.hide
        have J := (I1.ext e2).upAny c rfl hs1 nl n0 (x := .own (ds.set j da)) (.inl ⟨_, _, rfl, rfl, RvL.setAt (ra1.mono e2.kp.hide) rl2⟩)
        refine ⟨l, us, _, _, rfl, rfl, hl2, by rw [rl.length]; exact hj, v2, [], rfl, ?_⟩
        have ci : (ρ.set i (.own (ds.set j da)))[i]? = some (.own (ds.set j da)) := by
          rw [List.getElem?_set_self]
          exact (List.getElem?_eq_some_iff.mp c).1
        obtain ⟨l', us', hs1', nl', n0', hl', rl'⟩ := J.lst i _ ci
        rw [hs1] at hs1'
        cases hs1'
        have hide : Hide N (upd H2 l (.lst (us.set j v1))) = Hide N H2 := by
          funext a
          by_cases qa : a = l
          · subst qa; simp [Hide, nl]
          · unfold Hide; rw [upd_ne qa]
        have rv2 : Rv X.K X.prog X.w π (Hide N (upd H2 l (.lst (us.set j v1)))) v2 db := by rw [hide]; exact ra2.mono e2.kp.hide
        refine ⟨.ref l, hs1, hk2 J (T.all_mono (fun dm hdm => ?_) (T.all_bind.mp hdk))⟩
        intro y3 H3 e3 r3
        split at hdm
        · split at hdm
          · rename_i m j2 hj2
            cases r3
            have hl3 := e3.kp l _ (N_ne J.hn nl) hl'
            have rl3 := rl'.mono e3.kp.hide
            refine ⟨l, us', _, _, rfl, rfl, hl3, by rw [rl'.length]; exact hj2, rfl, ?_⟩
            have F := (J.ext e3).upAny ci rfl hs1 nl n0 (x := .own ((ds.set j da).set j2 db)) (.inl ⟨_, _, rfl, rfl, RvL.setAt (rv2.mono e3.kp.hide) rl3⟩)
            rw [List.set_set] at F
            exact hdm _ _ _ F
          · exact False.elim hdm
        · exact False.elim hdm
      · exact False.elim hdk
    · exact False.elim hdk
  · exact False.elim h⟩
end
end Pd
namespace Pd
open PySem L2 PySem.Spec PyProof.Rows
def minusL (N : Addr → Bool) (ls : List Addr) : Addr → Bool := fun a => N a && !(ls.contains a)
theorem minusL_in {N : Addr → Bool} {ls : List Addr} {a : Addr} : minusL N ls a = true ↔ N a = true ∧ a ∉ ls := by
  simp [minusL]
inductive RvG (K : PySem.W.Frag) (P : Program) (w : World) (π : Addr) (N : Addr → Bool) (H : Hp) : List (NestedKey × Addr × V) → List (D × D) → List Addr → Prop
  | nil : RvG K P w π N H [] [] []
  | cons {k : NestedKey} {a l : Addr} {us : List V} {ds : List D} {dk : D} {xs : List (NestedKey × Addr × V)} {kvs : List (D × D)} {ls : List Addr} (e : dk.nk = some k) (dp : k.depth ≤ 8) (rk : Rv K P w π (Hide N H) (.ref a) dk) (hl : H l = some (.lst us)) (r : RvL K P w π (Hide N H) us ds) (t : RvG K P w π N H xs kvs ls) :
      RvG K P w π N H ((k, a, .ref l) :: xs) ((dk, .lst ds) :: kvs) (l :: ls)
section
variable {K : PySem.W.Frag} {P : Program} {w : World} {π : Addr} {N N' : Addr → Bool} {H H' : Hp}
theorem RvG.length {xs : List (NestedKey × Addr × V)} {kvs : List (D × D)} {ls : List Addr} (h : RvG K P w π N H xs kvs ls) : xs.length = kvs.length := by
  induction h with
  | nil => rfl
  | cons _ _ _ _ _ _ ih => exact congrArg Nat.succ ih
theorem RvG.mono {xs : List (NestedKey × Addr × V)} {kvs : List (D × D)} {ls : List Addr} (h : RvG K P w π N H xs kvs ls) (k : Kp π (Hide N H) (Hide N' H')) (kl : ∀ l ∈ ls, ∀ us, H l = some (.lst us) → H' l = some (.lst us)) : RvG K P w π N' H' xs kvs ls := by
  induction h with
  | nil => exact .nil
  | cons e dp rk hl r t ih => exact .cons e dp (rk.mono k) (kl _ List.mem_cons_self _ hl) (r.mono k) (ih fun l hm => kl l (List.mem_cons_of_mem _ hm))
theorem RvG.val {xs : List (NestedKey × Addr × V)} {kvs : List (D × D)} {ls : List Addr} (h : RvG K P w π N H xs kvs ls) (k : NestedKey) : match dAt kvs k with
    | some d => ∃ l us ds, valX xs k = some (.ref l) ∧ d = .lst ds ∧ l ∈ ls ∧ H l = some (.lst us) ∧ RvL K P w π (Hide N H) us ds
    | none => valX xs k = none := by
  induction h with
  | nil => exact rfl
  | @cons k' a l us ds dk xs kvs ls e dp rk hl r t ih =>
    unfold dAt valX
    rw [hasK_eq e]
    by_cases q : k' = k
    · simp only [q, decide_true, cond_true, if_true]
      exact ⟨l, us, ds, rfl, rfl, List.mem_cons_self, hl, r⟩
    · simp only [q, decide_false, cond_false, if_false]
      cases c : dAt kvs k with
      | none => rw [c] at ih; exact ih
      | some d =>
        rw [c] at ih
        obtain ⟨l2, us2, ds2, a1, a2, a3, a4, a5⟩ := ih
        exact ⟨l2, us2, ds2, a1, a2, List.mem_cons_of_mem _ a3, a4, a5⟩
theorem RvG.new {xs : List (NestedKey × Addr × V)} {kvs : List (D × D)} {ls : List Addr} (h : RvG K P w π N H xs kvs ls) {k : NestedKey} {a q : Addr} {us : List V} {ds : List D} {dk : D} (e : dk.nk = some k) (dp : k.depth ≤ 8) (rk : Rv K P w π (Hide N H) (.ref a) dk) (hl : H q = some (.lst us)) (r : RvL K P w π (Hide N H) us ds) (hn : dAt kvs k = none) :
    RvG K P w π N H (putX xs k a (.ref q)) (dPut kvs k dk (.lst ds)) (ls ++ [q]) := by
  induction h with
  | nil => exact .cons e dp rk hl r .nil
  | @cons k' a' l' us' ds' dk' xs kvs ls e' dp' rk' hl' r' t ih =>
    unfold dAt at hn
    rw [hasK_eq e'] at hn
    unfold putX dPut
    rw [hasK_eq e']
    by_cases z : k' = k
    · simp [z] at hn
    · simp only [z, decide_false, cond_false, if_false] at hn ⊢
      exact .cons e' dp' rk' hl' r' (ih hn)
theorem RvG.app {xs : List (NestedKey × Addr × V)} {kvs : List (D × D)} {ls : List Addr} (h : RvG K P w π N H xs kvs ls) (nd : ls.Nodup) (hN : ∀ l ∈ ls, N l = true) {k : NestedKey} {l : Addr} {us : List V} {es : List D} {y : V} {dk dy : D} (hv : valX xs k = some (.ref l)) (hd : dAt kvs k = some (.lst es)) (hl : H l = some (.lst us)) (ry : Rv K P w π (Hide N H) y dy) :
    RvG K P w π N (upd H l (.lst (us ++ [y]))) xs (dPut kvs k dk (.lst (es ++ [dy]))) ls := by
  have lm : l ∈ ls := by
    have := h.val k
    rw [hd] at this
    obtain ⟨l2, _, _, a1, _, a3, _, _⟩ := this
    rw [hv] at a1
    cases a1
    exact a3
  have same : Hide N (upd H l (.lst (us ++ [y]))) = Hide N H := by
    funext a
    by_cases q : a = l
    · subst q; simp [Hide, hN _ lm]
    · unfold Hide; rw [upd_ne q]
  induction h with
  | nil => cases hv
  | @cons k' a l' us' ds' dk' xs kvs ls e dp rk hl' r t ih =>
    obtain ⟨nm, nd'⟩ := List.nodup_cons.mp nd
    unfold valX at hv
    unfold dAt at hd
    unfold dPut
    rw [hasK_eq e] at hd ⊢
    by_cases z : k' = k
    · simp only [z, decide_true, cond_true, if_true] at hv hd ⊢
      subst z
      cases hv
      cases hd
      rw [hl] at hl'
      cases hl'
      refine .cons e dp (by rw [same]; exact rk) upd_same (by rw [same]; exact r.append (.cons ry .nil)) (t.mono (by rw [same]; exact .refl) fun l2 h2 us2 q => ?_)
      rw [upd_ne (fun z => nm (by rw [← z]; exact h2))]
      exact q
    · simp only [z, decide_false, cond_false, if_false] at hv hd ⊢
      have lm2 : l ∈ ls := by
        have := t.val k
        rw [hd] at this
        obtain ⟨l2, _, _, a1, _, a3, _, _⟩ := this
        rw [hv] at a1
        cases a1
        exact a3
      refine .cons e dp (by rw [same]; exact rk) (by rw [upd_ne (fun z => nm (by rw [z]; exact lm2))]; exact hl') (by rw [same]; exact r) (ih nd' (fun l h => hN l (List.mem_cons_of_mem _ h)) hv hd lm2)
theorem RvG.out {xs : List (NestedKey × Addr × V)} {kvs : List (D × D)} {ls ls' : List Addr} (h : RvG K P w π N H xs kvs ls) (sub : ∀ l ∈ ls, l ∈ ls') (np : ∀ l ∈ ls, l ≠ π) : RvD K P w π (Hide (minusL N ls') H) xs kvs := by
  have k : Kp π (Hide N H) (Hide (minusL N ls') H) := Kp.less fun a h => (minusL_in.mp h).1
  induction h with
  | nil => exact .nil
  | @cons k' a l us ds dk xs kvs ls e dp rk hl r t ih =>
    have lm := sub l List.mem_cons_self
    exact .cons e dp (rk.mono k) (.lst (by rw [hide_in (by simp [minusL, lm])]; exact hl) (np l List.mem_cons_self) (r.mono k)) (ih (fun l h => sub l (List.mem_cons_of_mem _ h)) fun l h => np l (List.mem_cons_of_mem _ h))
variable {N0 : Addr → Bool} {H0 : Hp} {σ : L2.St} {ρ : Rho}
theorem EnvOk.unset {i : Nat} (I : EnvOk K P w π N0 H0 N H σ ρ) : EnvOk K P w π N0 H0 N H σ (ρ.set i .un) := by
  refine ⟨I.hn, I.ex, I.sub, I.own0, by rw [List.length_set]; exact I.len, fun j d h => ?_, fun j d h xo => ?_, fun j k f g l h1 h2 o1 o2 s1 s2 => ?_⟩
  · rcases at_set h with ⟨rfl, _, q⟩ | ⟨q, h⟩
    · cases q
    · exact I.val j d h
  · rcases at_set h with ⟨rfl, _, q⟩ | ⟨q, h⟩
    · subst q; cases xo
    · exact I.own j d h xo
  · rcases at_set h1 with ⟨rfl, _, q⟩ | ⟨q, h1⟩
    · subst q; cases o1
    · rcases at_set h2 with ⟨rfl, _, q2⟩ | ⟨q2, h2⟩
      · subst q2; cases o2
      · exact I.inj j k f g l h1 h2 o1 o2 s1 s2
/-- hidden lists are seen again -/
theorem EnvOk.shown {ls : List Addr} (I : EnvOk K P w π N0 H0 N H σ ρ) (n0 : ∀ l ∈ ls, N0 l = false) (no : ∀ (j : Nat) (f : Ent) (l' : Addr), ρ[j]? = some f → f.isOwn = true → σ[j]? = some (some (.ref l')) → l' ∉ ls) : EnvOk K P w π N0 H0 (minusL N ls) H σ ρ := by
  have k : Kp π (Hide N H) (Hide (minusL N ls) H) := Kp.less fun a h => (minusL_in.mp h).1
  refine ⟨⟨I.hn.pot, ?_, fun a h => I.hn.isS a (minusL_in.mp h).1⟩, I.ex, fun a h => minusL_in.mpr ⟨I.sub a h, fun z => by rw [n0 a z] at h; cases h⟩, fun a h => I.own0 a (minusL_in.mp h).1, I.len, fun j d h => ?_, fun j x h xo => ?_, I.inj⟩
  · simp [minusL, I.hn.npi]
  · obtain ⟨v, a, b⟩ := I.val j d h
    exact ⟨v, a, b.mono k⟩
  · obtain ⟨l', o', a, n, m0, b, c⟩ := I.own j x h xo
    exact ⟨l', o', a, minusL_in.mpr ⟨n, no j x l' h xo a⟩, m0, b, c.mono k⟩
/-- a dict that no name of the data holds, is a name's -/
theorem EnvOk.gotD {i : Nat} {l : Addr} {xs : List (NestedKey × Addr × V)} {kvs : List (D × D)} (I : EnvOk K P w π N0 H0 N H σ ρ) (hs : σ[i]? = some (some (.ref l))) (nl : N l = true) (n0 : N0 l = false) (hl : H l = some (DN P w l xs)) (r : RvD K P w π (Hide N H) xs kvs)
    (no : ∀ (j : Nat) (f : Ent) (l' : Addr), ρ[j]? = some f → f.isOwn = true → σ[j]? = some (some (.ref l')) → l' ≠ l) : EnvOk K P w π N0 H0 N H σ (ρ.set i (.ownD kvs)) := by
  refine ⟨I.hn, I.ex, I.sub, I.own0, by rw [List.length_set]; exact I.len, fun j d h => ?_, fun j d h xo => ?_, fun j k f g l' h1 h2 o1 o2 s1 s2 => ?_⟩
  · rcases at_set h with ⟨rfl, _, q⟩ | ⟨q, h⟩
    · cases q
    · exact I.val j d h
  · rcases at_set h with ⟨rfl, _, q⟩ | ⟨q, h⟩
    · subst q
      exact ⟨l, _, hs, nl, n0, hl, xs, rfl, r⟩
    · exact I.own j d h xo
  · rcases at_set h1 with ⟨e1, _, q⟩ | ⟨q, h1⟩
    · rcases at_set h2 with ⟨e2, _, q2⟩ | ⟨q2, h2⟩
      · rw [← e1, ← e2]
      · rw [← e1, hs] at s1
        cases s1
        exact absurd rfl (no k g _ h2 o2 s2)
    · rcases at_set h2 with ⟨e2, _, q2⟩ | ⟨q2, h2⟩
      · rw [← e2, hs] at s2
        cases s2
        exact absurd rfl (no j f _ h1 o1 s1)
      · exact I.inj j k f g l' h1 h2 o1 o2 s1 s2
end
end Pd
namespace Pd
open PySem L2 PySem.Spec PyProof.Rows
/-- what holds at the loop's head -/
structure GI (X : Cx) (π : Addr) (N0 : Addr → Bool) (B : Hp) (i : Nat) (vs : List Nat) (L : Addr) (N : Addr → Bool) (H : Hp) (σ : L2.St) (ρ : Rho) (xs : List (NestedKey × Addr × V)) (kvs : List (D × D)) (ls : List Addr) : Prop where
  ok : EnvOk X.K X.prog X.w π N0 B N H σ ρ
  at_ : σ[i]? = some (some (.ref L))
  nL : N L = true
  dic : H L = some (DN X.prog X.w L xs)
  rel : RvG X.K X.prog X.w π N H xs kvs ls
  nd : ls.Nodup
  inn : ∀ l ∈ ls, N l = true ∧ N0 l = false ∧ l ≠ L
  no : ∀ (j : Nat) (f : Ent), ρ[j]? = some f → f.isOwn = true → j ∉ vs ∧ ∀ l', σ[j]? = some (some (.ref l')) → l' ≠ L ∧ l' ∉ ls
section
variable {X : Cx} {π : Addr} {N0 N : Addr → Bool} {B H H' : Hp} {i : Nat} {vs : List Nat} {L : Addr} {σ : L2.St} {ρ : Rho} {xs : List (NestedKey × Addr × V)} {kvs : List (D × D)} {ls : List Addr}
theorem GI.ext (G : GI X π N0 B i vs L N H σ ρ xs kvs ls) (e : Ex π H H') : GI X π N0 B i vs L N H' σ ρ xs kvs ls :=
  ⟨G.ok.ext e, G.at_, G.nL, e.kp _ _ (N_ne G.ok.hn G.nL) G.dic, G.rel.mono e.kp.hide fun l hl us h => e.kp _ _ (N_ne G.ok.hn (G.inn l hl).1) h, G.nd, G.inn, G.no⟩
theorem GI.done (G : GI X π N0 B i vs L N H σ ρ xs kvs ls) (n0 : N0 L = false) : EnvOk X.K X.prog X.w π N0 B (minusL N ls) H σ (ρ.set i (.ownD kvs)) := by
  have J := G.ok.shown (fun l h => (G.inn l h).2.1) (fun j f l' h o s => ((G.no j f h o).2 l' s).2)
  exact J.gotD G.at_ (minusL_in.mpr ⟨G.nL, fun h => (G.inn L h).2.2 rfl⟩) n0 G.dic (G.rel.out (fun _ h => h) fun l h => N_ne G.ok.hn (G.inn l h).1) (fun j f l' h o s => ((G.no j f h o).2 l' s).1)
end
end Pd
namespace Pd
open PySem L2 PySem.Spec PyProof.Rows
def plusL (N : Addr → Bool) (ls : List Addr) : Addr → Bool := fun a => N a || ls.contains a
theorem plusL_iff {N : Addr → Bool} {ls : List Addr} {a : Addr} : plusL N ls a = true ↔ N a = true ∨ a ∈ ls := by simp [plusL]
theorem plusL_nil {N : Addr → Bool} : plusL N [] = N := by funext a; simp [plusL]
theorem plusL_app {N : Addr → Bool} {ls : List Addr} {q : Addr} : plusL N (ls ++ [q]) = plus (plusL N ls) q := by
  funext a
  by_cases h : a = q
  · subst h; simp [plusL, plus]
  · simp [plusL, plus, h]
theorem plusL_old {N : Addr → Bool} {ls : List Addr} {a : Addr} (h : N a = true) : plusL N ls a = true := plusL_iff.mpr (.inl h)
theorem plusL_mem {N : Addr → Bool} {ls : List Addr} {a : Addr} (h : a ∈ ls) : plusL N ls a = true := plusL_iff.mpr (.inr h)
theorem plusL_no {N : Addr → Bool} {ls : List Addr} {a : Addr} (h : N a = false) (g : a ∉ ls) : plusL N ls a = false := by simp [plusL, h, g]
inductive RvLs (K : PySem.W.Frag) (P : Program) (w : World) (π : Addr) (N : Addr → Bool) (H : Hp) : List Addr → List (List D) → Prop
  | nil : RvLs K P w π N H [] []
  | cons {l : Addr} {us : List V} {ds : List D} {ls : List Addr} {dss : List (List D)} (hl : H l = some (.lst us)) (r : RvL K P w π (Hide N H) us ds) (t : RvLs K P w π N H ls dss) : RvLs K P w π N H (l :: ls) (ds :: dss)
section
variable {K : PySem.W.Frag} {P : Program} {w : World} {π : Addr} {N N' : Addr → Bool} {H H' : Hp}
theorem RvLs.length {ls : List Addr} {dss : List (List D)} (h : RvLs K P w π N H ls dss) : ls.length = dss.length := by
  induction h with
  | nil => rfl
  | cons _ _ _ ih => exact congrArg Nat.succ ih
theorem RvLs.mono {ls : List Addr} {dss : List (List D)} (h : RvLs K P w π N H ls dss) (k : Kp π (Hide N H) (Hide N' H')) (kl : ∀ l ∈ ls, ∀ us, H l = some (.lst us) → H' l = some (.lst us)) : RvLs K P w π N' H' ls dss := by
  induction h with
  | nil => exact .nil
  | cons hl r t ih => exact .cons (kl _ List.mem_cons_self _ hl) (r.mono k) (ih fun l hm => kl l (List.mem_cons_of_mem _ hm))
theorem RvLs.append {ls : List Addr} {dss : List (List D)} (h : RvLs K P w π N H ls dss) {q : Addr} {us : List V} {ds : List D} (hl : H q = some (.lst us)) (r : RvL K P w π (Hide N H) us ds) : RvLs K P w π N H (ls ++ [q]) (dss ++ [ds]) := by
  induction h with
  | nil => exact .cons hl r .nil
  | cons hl' r' t ih => exact .cons hl' r' ih
theorem RvLs.there {ls : List Addr} {dss : List (List D)} (h : RvLs K P w π N H ls dss) : ∀ l ∈ ls, ∃ us, H l = some (.lst us) := by
  induction h with
  | nil => exact fun _ h => nomatch h
  | cons hl r t ih =>
    intro l hm
    rcases List.mem_cons.mp hm with rfl | hm
    · exact ⟨_, hl⟩
    · exact ih l hm
/-- read as a value, once it is seen -/
theorem RvLs.out {ls : List Addr} {dss : List (List D)} (h : RvLs K P w π N H ls dss) (k : Kp π (Hide N H) (Hide N' H)) (v : ∀ l ∈ ls, N' l = false ∧ l ≠ π) : RvL K P w π (Hide N' H) (ls.map V.ref) (dss.map D.lst) := by
  induction h with
  | nil => exact .nil
  | @cons l us ds ls dss hl r t ih =>
    obtain ⟨a, b⟩ := v l List.mem_cons_self
    exact .cons (.lst (by rw [hide_in a]; exact hl) b (r.mono k)) (ih fun l hm => v l (List.mem_cons_of_mem _ hm))
end
section
variable (X : Cx)
def Kll (π : Addr) (N : Addr → Bool) (H : Hp) (Q : VK) : List (List D) → Prop := fun dss => ∀ l ls H2, Ex π H H2 → H l = none → (∀ q ∈ ls, H q = none) → (l :: ls).Nodup → H2 l = some (.lst (ls.map V.ref)) → RvLs X.K X.prog X.w π (plusL (plus N l) ls) H2 ls dss → Q (.ref l) H2
/-- a new list of new lists -/
def SndLL (e : Expr) (m : Rho → T (List (List D))) : Prop := ∀ ⦃π : Addr⦄ ⦃N0 : Addr → Bool⦄ ⦃H0 : Hp⦄ ⦃N : Addr → Bool⦄ ⦃H : Hp⦄ ⦃σ : L2.St⦄ ⦃ρ : Rho⦄ ⦃Q : VK⦄, EnvOk X.K X.prog X.w π N0 H0 N H σ ρ → (m ρ).all (Kll X π N H Q) → wpE X e σ H Q
end
def compLL (g : D → Rho → T Rho) (mt : Rho → T Bool) (me : Rho → T (List D)) (ρ : Rho) : List D → List (List D) → T (List (List D))
  | [], acc => .ret acc
  | d :: ds, acc => (g d ρ).bind fun ρ2 => (mt ρ2).bind fun b => cond b ((me ρ2).bind fun ys => cond (decide (acc.length ≤ 100000)) (compLL g mt me ρ ds (acc ++ [ys])) .fail) (compLL g mt me ρ ds acc)
def lCompLL (vs : List Nat) (mi : Rho → T (List D)) (g : D → Rho → T Rho) (mt : Rho → T Bool) (me : Rho → T (List D)) : Rho → T (List (List D)) := fun ρ => (mi ρ).bind fun ds => compLL g mt me (wipeR ρ vs) ds []
section
variable {X : Cx}
theorem lcl_run {π : Addr} {N0 N : Addr → Bool} {H0 H : Hp} {σ : L2.St} {ρ : Rho} {Q : VK} {tg it elt : Expr} {ifs : List Expr} {scope : Scope} {vs : List Nat} {mi : Rho → T (List D)} {g : D → Rho → T Rho} {mt : Rho → T Bool} {me : Rho → T (List D)}
    (hi : SndI X tg it mi) (hg : ∀ s Hh C cl fp, SndGw (X.blk s Hh scope (compEnvC scope cl C X.env) fp) vs tg g) (ht : ∀ s Hh C cl fp, SndTs (X.blk s Hh scope (compEnvC scope cl C X.env) fp) ifs mt) (he : ∀ s Hh C cl fp, SndL (X.blk s Hh scope (compEnvC scope cl C X.env) fp) elt me)
    (I : EnvOk X.K X.prog X.w π N0 H0 N H σ ρ) (h : (lCompLL vs mi g mt me ρ).all (Kll X π N H Q)) : tLc (wpI X tg it) (bG X scope tg) (bT X scope ifs) (bE X scope elt) vs σ H Q := by
  refine hi I (T.all_mono (fun ds hds J H2 e2 wk => ?_) (T.all_bind.mp h))
  intro Dl hD
  have I2 := I.ext e2
  have old : ∀ q, H2 q = none → H q = none := fun q hq => by
    cases c : H q with
    | none => rfl
    | some o => rw [e2.kp q o (I2.hn.pot.ne hq) c] at hq; cases hq
  have eN : Ex π H2 (upd H2 Dl (.lst [])) := Ex.new I2.hn.pot hD
  have dpi := I2.hn.pot.ne hD
  have I3 : EnvOk X.K X.prog X.w π N0 H0 (plus N Dl) (upd H2 Dl (.lst [])) (wipe σ vs) (wipeR ρ vs) := wipe_ok (I2.hideNew eN hD upd_same ⟨[], .nil⟩) vs
  have n0 : N0 Dl = false := by
    cases c : N0 Dl with
    | false => rfl
    | true =>
      have := I2.hn.new hD
      rw [I2.sub Dl c] at this
      cases this
  have no : ∀ (j : Nat) (f : Ent) (l' : Addr), (wipeR ρ vs)[j]? = some f → f.isOwn = true → (wipe σ vs)[j]? = some (some (.ref l')) → l' ≠ Dl := fun j f l' h1 o1 s1 => by
    have W := wipe_ok I2 vs
    have nD : ∀ {o : HO}, H2 l' = some o → l' ≠ Dl := fun {o} h z => by rw [z, hD] at h; cases h
    obtain ⟨l2, o2, a, _, _, b, _⟩ := W.own j f h1 o1
    rw [s1] at a
    cases a
    exact nD b
  refine ⟨fun i k H' => k = ds.length - i ∧ i ≤ ds.length ∧ ∃ ls dss, EnvOk X.K X.prog X.w π N0 H0 (plusL (plus N Dl) ls) H' (wipe σ vs) (wipeR ρ vs) ∧ Kp π H2 H' ∧ H' Dl = some (.lst (ls.map V.ref)) ∧ ((Dl :: ls).Nodup ∧ ∀ q ∈ ls, H2 q = none) ∧ RvLs X.K X.prog X.w π (plusL (plus N Dl) ls) H' ls dss ∧ (compLL g mt me (wipeR ρ vs) (ds.drop i) dss).all (Kll X π N H Q),
    ⟨ds.length, rfl, Nat.zero_le _, [], [], by rw [plusL_nil]; exact I3, eN.kp, upd_same, ⟨by simp, fun _ h => nomatch h⟩, .nil, hds⟩, ?_⟩
  rintro i k H' ⟨rfl, hle, ls, dss, I', kp, hDl, ⟨nd, fr⟩, rl, hall⟩
  have vis : Kp π (Hide N H2) (Hide (plusL (plus N Dl) ls) H') := fun a o n q => by
    obtain ⟨na, ha⟩ := hide_some q
    have ne : a ≠ Dl := fun z => by rw [z, hD] at ha; cases ha
    have nl : a ∉ ls := fun z => by rw [fr a z] at ha; cases ha
    rw [hide_in (plusL_no (by simp [plus, na, ne]) nl)]
    exact kp a o n ha
  have w := wk (plusL (plus N Dl) ls) H' i I'.hn vis
  by_cases hlt : i < ds.length
  · have hget : ds[i]? = some ds[i] := List.getElem?_eq_getElem hlt
    obtain ⟨go, yl⟩ := w.1 _ hget
    rw [List.drop_eq_getElem_cons hlt] at hall
    let Nxt : Hp → Prop := fun B => ∃ ls dss, EnvOk X.K X.prog X.w π N0 H0 (plusL (plus N Dl) ls) B (wipe σ vs) (wipeR ρ vs) ∧ Kp π H2 B ∧ B Dl = some (.lst (ls.map V.ref)) ∧ ((Dl :: ls).Nodup ∧ ∀ q ∈ ls, H2 q = none) ∧ RvLs X.K X.prog X.w π (plusL (plus N Dl) ls) B ls dss ∧ (compLL g mt me (wipeR ρ vs) (ds.drop (i + 1)) dss).all (Kll X π N H Q)
    refine .inr ⟨go, Nxt, fun H'' q => ⟨ds.length - (i + 1), by omega, rfl, hlt, q⟩, fun x H'' y => ?_⟩
    obtain ⟨e3, rx⟩ := yl x H'' y
    have I4 := I'.ext e3
    refine fun s Hh C cl fp => wpG_mono (hg s Hh C cl fp (Q := fun σ2 H2' => bT X scope ifs σ2 H2' fun b H3 => if b = true then bE X scope elt σ2 H3 fun y H4 => ∃ acc, H4 Dl = some (.lst acc) ∧ acc.length < sizeLine ∧ Nxt (upd H4 Dl (.lst (acc ++ [y]))) else Nxt H3)
      (I4 : EnvOk X.K X.prog X.w π N0 H0 (plusL (plus N Dl) ls) H'' (wipe σ vs) (wipeR ρ vs)) rx (T.all_mono (fun ρ2 h2 => ?_) (T.all_bind.mp hall))) fun σ' H' q => ⟨q.1.trans wipe_wipe, q.2⟩
    intro σ2 I5 s Hh C cl fp
    refine ht s Hh C cl fp I5 (T.all_mono (fun b hb => ?_) (T.all_bind.mp h2))
    intro H5 e5
    have e35 := e3.trans e5
    have ndl : Dl ∉ ls := (List.nodup_cons.mp nd).1
    have lpi : ∀ l ∈ ls, l ≠ π := fun l hl z => by
      have := I'.hn.npi
      rw [← z, plusL_mem hl] at this
      cases this
    cases b with
    | false => exact iteF ⟨ls, dss, I4.ext e5, kp.trans e35.kp, e35.kp Dl _ dpi hDl, ⟨nd, fr⟩, rl.mono e35.kp.hide fun l hl us q => e35.kp l _ (lpi l hl) q, hb⟩
    | true =>
      refine iteT fun s Hh C cl fp => he s Hh C cl fp (I5.ext e5 : EnvOk X.K X.prog X.w π N0 H0 (plusL (plus N Dl) ls) H5 σ2 ρ2) (T.all_mono (fun ys hy => ?_) (T.all_bind.mp hb))
      intro q us H6 e6 hq h6 rv
      obtain ⟨hsm, hy⟩ := cond_all hy
      have e36 := e35.trans e6
      have hD6 := e36.kp Dl _ dpi hDl
      have hD5 := e35.kp Dl _ dpi hDl
      have qD : q ≠ Dl := fun z => by rw [z, hD5] at hq; cases hq
      have qls : q ∉ ls := fun z => by
        obtain ⟨us2, g⟩ := rl.there q z
        rw [e35.kp q _ (lpi q z) g] at hq
        cases hq
      have I6 := (I4.ext e5).hideNew e6 hq h6 ⟨ys, rv⟩
      have hd : Hide (plus (plusL (plus N Dl) ls) q) (upd H6 Dl (.lst (ls.map V.ref ++ [.ref q]))) = Hide (plus (plusL (plus N Dl) ls) q) H6 := by
        funext a
        by_cases z : a = Dl
        · subst z; simp [Hide, plus, plusL]
        · unfold Hide; rw [upd_ne z]
      refine ⟨ls.map V.ref, hD6, by rw [List.length_map, rl.length]; exact Nat.lt_of_le_of_lt (of_decide_eq_true hsm) (by decide), ls ++ [q], dss ++ [ys], ?_, ?_, ?_, ⟨?_, ?_⟩, ?_, hy⟩
      · rw [plusL_app]
        exact I6.upHid (plus_old (plusL_old plus_self)) n0 no
      · intro a o n z
        have ne : a ≠ Dl := fun y => by rw [y, hD] at z; cases z
        rw [upd_ne ne]
        exact (kp.trans e36.kp) a o n z
      · rw [upd_same, List.map_append]
        rfl
      · rw [List.nodup_cons] at nd ⊢
        refine ⟨fun z => ?_, List.nodup_append.mpr ⟨nd.2, by simp, fun a ha b hb => ?_⟩⟩
        · rcases List.mem_append.mp z with z | z
          · exact ndl z
          · exact qD (List.mem_singleton.mp z).symm
        · rw [List.mem_singleton.mp hb]
          exact fun z => qls (by rw [← z]; exact ha)
      · intro a ha
        rcases List.mem_append.mp ha with ha | ha
        · exact fr a ha
        · rw [List.mem_singleton.mp ha]
          cases c : H2 q with
          | none => rfl
          | some o => rw [(kp.trans e35.kp) q o ((I5.ext e5).hn.pot.ne hq) c] at hq; cases hq
      · rw [plusL_app]
        have rl6 : RvLs X.K X.prog X.w π (plus (plusL (plus N Dl) ls) q) (upd H6 Dl (.lst (ls.map V.ref ++ [.ref q]))) ls dss := by
          refine rl.mono (fun a o n z => ?_) fun l hl us2 z => ?_
          · obtain ⟨na, ha⟩ := hide_some z
            have a5 := e35.kp a o n ha
            have ne : a ≠ q := fun y => by rw [y, hq] at a5; cases a5
            rw [hd, hide_in (by simp [plus, na, ne])]
            exact e6.kp a o n a5
          · rw [upd_ne (fun y => ndl (by rw [← y]; exact hl))]
            exact e36.kp l _ (lpi l hl) z
        exact rl6.append (by rw [upd_ne qD]; exact h6) (by rw [hd]; exact rv)
  · have e : i = ds.length := by omega
    subst e
    rw [List.drop_length] at hall
    exact .inl ⟨w.2 rfl, hall Dl ls H' ⟨e2.kp.trans kp, I'.hn.pot⟩ (old Dl hD) (fun q hq => old q (fr q hq)) nd hDl rl⟩
variable {tg it elt : Expr} {ifs : List Expr} {scope : Scope} {pos : Pos} {mi : Rho → T (List D)} {g : D → Rho → T Rho} {mt : Rho → T Bool} {me : Rho → T (List D)}
theorem sll_comp (own : List (Str × Nat)) {vs : List Nat} (hv : own.map (·.2) = vs) (hc : X.calm = true) (hN : X.N.Nodup) (ok : BlkOk X.N X.env.scope scope own) (hi : SndI X tg it mi) (hg : ∀ s Hh C cl fp, SndGw (X.blk s Hh scope (compEnvC scope cl C X.env) fp) vs tg g) (ht : ∀ s Hh C cl fp, SndTs (X.blk s Hh scope (compEnvC scope cl C X.env) fp) ifs mt) (he : ∀ s Hh C cl fp, SndL (X.blk s Hh scope (compEnvC scope cl C X.env) fp) elt me)
    (hs : ∀ x, foldedSetIterable it X.env x = pure x := by intro _; rfl) : SndLL X (.ListComp elt [⟨tg, it, ifs, 0⟩] scope pos) (lCompLL vs mi g mt me) := fun {_ _ _ _ _ _ _ _} I h =>
  ⟨_, pe_lc (g := bG X scope tg) (tt := bT X scope ifs) (te := bE X scope elt) hc hN pi_wp ok (fun s H C cl fp => ⟨fun pins s' σ H' v u Q I r h => pg_wp.run pins s' σ H' v u Q I r (h s H C cl fp)⟩) (fun s H C cl fp => ⟨fun pins s' σ H' Q I h => pts_wp.run pins s' σ H' Q I (h s H C cl fp)⟩)
    (fun s H C cl fp => ⟨fun pins s' σ H' Q I h => pe_wp.run pins s' σ H' Q I (h s H C cl fp)⟩) hs, by rw [hv]; exact lcl_run hi hg ht he I h⟩
end
end Pd
namespace Pd
open PySem L2 PySem.Spec PyProof.Rows
def spRR (K : PySem.W.Frag) (P : Program) (w : World) (n : Nat) (F : List D → T (List (List D))) : Sp := fun vs H Q _ => ∃ (π : Addr) (N : Addr → Bool) (ds : List D), HN π N H ∧ RvL K P w π (Hide N H) vs ds ∧ vs.length = n ∧
  (F ds).all fun dss => ∀ l ls H', Ex π H H' → H l = none → (∀ q ∈ ls, H q = none) → (l :: ls).Nodup → H' l = some (.lst (ls.map V.ref)) → RvLs K P w π (plusL (plus N l) ls) H' ls dss → Q (.ref l) H'
def runLL (n : Nat) (ml : Rho → T (List (List D))) : List D → T (List (List D)) := fun ds => ml (ds.map Ent.val ++ List.replicate (n - ds.length) Ent.un)
section
variable (X : Cx)
def SndBLL (sts : List Stmt) (ml : Rho → T (List (List D))) : Prop := ∀ ⦃π : Addr⦄ ⦃N0 : Addr → Bool⦄ ⦃H0 : Hp⦄ ⦃N : Addr → Bool⦄ ⦃H : Hp⦄ ⦃σ : L2.St⦄ ⦃ρ : Rho⦄ ⦃De : Ends⦄, EnvOk X.K X.prog X.w π N0 H0 N H σ ρ →
  (ml ρ).all (fun dss => ∀ l ls H', Ex π H0 H' → H0 l = none → (∀ q ∈ ls, H0 q = none) → (l :: ls).Nodup → H' l = some (.lst (ls.map V.ref)) → RvLs X.K X.prog X.w π (plusL (plus N0 l) ls) H' ls dss → De.rt (.ref l) H') → wpSs X sts De σ H
end
section
variable {X : Cx} {e : Expr} {ml : Rho → T (List (List D))} {pos : Pos}
theorem bll_ret (he : SndLL X e ml) : SndBLL X [.Return (some e) pos] ml := fun {π N0 H0 N H σ ρ De} I h =>
  ⟨_, pss_one (ps_ret pe_wp), he I (T.all_mono (fun dss hd => by
    intro l ls H2 e2 hl hls nd h2 r
    refine hd l ls H2 ⟨I.ex.trans e2.kp, e2.pot⟩ (I.newAt hl) (fun q hq => I.newAt (hls q hq)) nd h2 (r.mono (Kp.less fun a ha => ?_) fun _ _ _ z => z)
    rcases plusL_iff.mp ha with z | z
    · rcases plus_or z with z | z
      · exact plusL_old (plus_old (I.sub a z))
      · rw [z]; exact plusL_old plus_self
    · exact plusL_mem z) h)⟩
end
section
variable {P : Program} {w : World} {K : PySem.W.Frag} {mg : Str → Option Value} {base : Heap}
theorem fnLL_ok {x qual : Str} {st : Stmt} {f : Addr} {fd : FuncData} {Nm ps : List Str} {k n p : Nat} {ml : Rho → T (List (List D))} {G : List D → T (List (List D))} (F : Fun K x qual st f fd) (S : FnScope Nm ps (defScope st)) (hn : Nm.length = n) (hp : ps.length = p) (hG : G = runLL n ml)
    (hb : ∀ (cdv : Value) (A : Around) (outer : List Env) (s : Shared) (H : Hp) (E : XK), Room k (A.deeper (PyProof.Rows.envOfC qual (defScope st) s.heap.objs.size f cdv)) → SndBLL (cxOf CX0 P w K mg base Nm qual (defScope st) f cdv A outer s H E).nox (defBody st) ml) :
    FnOk P w K mg base CX0 (k + 1) f fd ps (spRR K P w p G) := by
  subst hn hp hG
  refine F.ok S (fun vs H Q E h => ?_) (fun cdv A outer s H vs Q E hr h => ?_)
  · obtain ⟨π, N, ds, hn, r, hl, _⟩ := h
    exact hl
  · obtain ⟨π, N, ds, hn, r, hl, hall⟩ := h
    exact hb cdv A outer s H E hr (env_start hn r) hall
def PmMRR (P : Program) (w : World) (K : PySem.W.Frag) (mg : Str → Option Value) (base : Heap) (c m : Str) (k : Nat) (ps : List Str) (F : List D → T (List (List D))) : Prop := ∃ (C a : Addr) (fd : FuncData), ClsAt K c C ∧ Cls K C ∧ Meth K C m a ∧ FnOk P w K mg base CX0 k a fd ps (spRR K P w 1 F) ∧ Binds K fd ps []
end
def llMeth (c m : Str) (F : List D → T (List (List D))) (ma : Rho → T D) : Rho → T (List (List D)) := fun ρ => (ma ρ).bind fun d => (insD c m d).bind fun _ => F [d]
section
variable {X : Cx} {pos : Pos} {k : Nat} {ps : List Str} {F : List D → T (List (List D))}
theorem sll_meth {c me : Str} {o : Expr} {mo : Rho → T D} {apos : Pos} {pl : Sem Bool} (h : PmMRR X.prog X.w X.K X.mg X.base c me k ps F) (hr : Room k X.A) (ho : Snd X o mo)
    (ht : eval (.Call (.Attribute o me apos) [] [] pos) X.env = (do
      let ov ← eval o X.env
      standAt apos.atName
      let (f, first) ← holding [ov] (getMethod ov me pl)
      callWith pos f first (backTo pos (starEach [] X.env)) (backToKw pos (keywordEach [] X.env))) := by rfl) :
    SndLL X (.Call (.Attribute o me apos) [] [] pos) (llMeth c me F mo) := fun {π N0 H0 N H σ ρ Q} I h' => by
  obtain ⟨C, f, fd, at_, cl, hm, G, B⟩ := h
  exact ⟨_, pe_meth0 (pl := pl) pe_wp cl hm G hr B .nil pass0 ht, ho I (T.all_mono (fun d hd => by
    intro x H1 e1 rx
    obtain ⟨fs, rfl, nf, hd⟩ := insD_all (T.all_bind.mp hd)
    obtain ⟨a, dx, C2, fv, rfl, hc, hx, rf⟩ := id rx.insE
    have e3 := at_.one hc
    subst e3
    refine ⟨a, dx, fv, rfl, hx, rf.none_of nf, ?_⟩
    show spRR X.K X.prog X.w 1 F ([.ref a] ++ []) H1 Q E0
    rw [List.append_nil]
    refine ⟨π, N, _, I.hn.ext e1, .cons rx .nil, rfl, T.all_mono (fun dss q l ls H' e hl hls nd h2 r => ?_) hd⟩
    have back : ∀ q, H1 q = none → H q = none := fun q hq => by
      cases c : H q with
      | none => rfl
      | some o => rw [e1.kp q o ((I.hn.ext e1).pot.ne hq) c] at hq; cases hq
    exact q l ls H' (e1.trans e) (back l hl) (fun p hp => back p (hls p hp)) nd h2 r) (T.all_bind.mp h'))⟩
end
theorem plusL_cons {N : Addr → Bool} {ls : List Addr} {l : Addr} : plusL N (l :: ls) = plusL (plus N l) ls := by
  funext a
  by_cases h : a = l
  · subst h; simp [plusL, plus]
  · have e : (a == l) = false := by simpa using h
    simp [plusL, plus, h, e]
theorem EnvOk.hideL {K : PySem.W.Frag} {P : Program} {w : World} {π : Addr} {N0 N : Addr → Bool} {H0 H H' : Hp} {σ : L2.St} {ρ : Rho} {ls : List Addr} (I : EnvOk K P w π N0 H0 N H σ ρ) (e : Ex π H H') (hn : ∀ q ∈ ls, H q = none) (hs : ∀ q ∈ ls, H' q ≠ none) : EnvOk K P w π N0 H0 (plusL N ls) H' σ ρ := by
  have k : Kp π (Hide N H) (Hide (plusL N ls) H') := fun a o n h => by
    obtain ⟨na, ha⟩ := hide_some h
    have nl : a ∉ ls := fun z => by rw [hn a z] at ha; cases ha
    rw [hide_in (plusL_no na nl)]
    exact e.kp a o n ha
  refine ⟨⟨e.pot, plusL_no I.hn.npi fun z => absurd rfl (I.hn.pot.ne (hn π z)), fun a h => ?_⟩, I.ex.trans e.kp, fun a h => plusL_old (I.sub a h), fun a h => ?_, I.len, fun j d h => ?_, fun j x h xo => ?_, I.inj⟩
  · rcases plusL_iff.mp h with z | z
    · exact (I.hn.ext e).isS a z
    · exact hs a z
  · rcases plusL_iff.mp h with z | z
    · exact I.own0 a z
    · exact .inr (I.newAt (hn a z))
  · obtain ⟨v, a, b⟩ := I.val j d h
    exact ⟨v, a, b.mono k⟩
  · obtain ⟨l, o, a, n, n0, b, c⟩ := I.own j x h xo
    exact ⟨l, o, a, plusL_old n, n0, e.kp l _ (N_ne I.hn n) b, c.mono k⟩
/-- hidden lists that no name holds -/
structure Free (X : Cx) (π : Addr) (N0 : Addr → Bool) (H0 : Hp) (N : Addr → Bool) (H : Hp) (σ : L2.St) (ρ : Rho) (ls : List Addr) : Prop where
  ok : EnvOk X.K X.prog X.w π N0 H0 N H σ ρ
  inn : ∀ l ∈ ls, N l = true ∧ N0 l = false
  no : ∀ (j : Nat) (f : Ent) (l' : Addr), ρ[j]? = some f → f.isOwn = true → σ[j]? = some (some (.ref l')) → l' ∉ ls
theorem Free.of {X : Cx} {π : Addr} {N0 N : Addr → Bool} {H0 H H' : Hp} {σ : L2.St} {ρ : Rho} {ls : List Addr} (I : EnvOk X.K X.prog X.w π N0 H0 N H σ ρ) (e : Ex π H H') (hn : ∀ q ∈ ls, H q = none) (hs : ∀ q ∈ ls, H' q ≠ none) : Free X π N0 H0 (plusL N ls) H' σ ρ ls := by
  refine ⟨I.hideL e hn hs, fun l hl => ⟨plusL_mem hl, ?_⟩, fun j f l' h o s z => ?_⟩
  · cases c : N0 l with
    | false => rfl
    | true =>
      have := I.hn.new (hn l hl)
      rw [I.sub l c] at this
      cases this
  · obtain ⟨l2, o2, a, _, _, b, _⟩ := I.own j f h o
    rw [s] at a
    cases a
    rw [hn _ z] at b
    cases b
section
variable {X : Cx} {π : Addr} {N0 N : Addr → Bool} {H0 H H' : Hp} {σ : L2.St} {ρ : Rho} {ls : List Addr}
theorem Free.ext (G : Free X π N0 H0 N H σ ρ ls) (e : Ex π H H') : Free X π N0 H0 N H' σ ρ ls := ⟨G.ok.ext e, G.inn, G.no⟩
theorem Free.up (G : Free X π N0 H0 N H σ ρ ls) {l : Addr} {o : HO} (hl : l ∈ ls) : Free X π N0 H0 N (upd H l o) σ ρ ls := ⟨G.ok.upHid (G.inn l hl).1 (G.inn l hl).2 (fun j f l' h o s z => G.no j f l' h o s (by rw [z]; exact hl)), G.inn, G.no⟩
theorem EnvOk.anyUn {i : Nat} {x : Option V} (I : EnvOk X.K X.prog X.w π N0 H0 N H σ ρ) (hi : ρ[i]? = some .un ∨ ρ.length ≤ i) : EnvOk X.K X.prog X.w π N0 H0 N H (σ.set i x) ρ := by
  have ne : ∀ (j : Nat) (f : Ent), ρ[j]? = some f → f ≠ .un → i ≠ j := fun j f h nf z => by
    subst z
    rcases hi with q | q
    · rw [q] at h; cases h; exact nf rfl
    · rw [List.getElem?_eq_none q] at h; cases h
  refine ⟨I.hn, I.ex, I.sub, I.own0, by rw [List.length_set]; exact I.len, fun j d h => ?_, fun j f h xo => ?_, fun j k f g l h1 h2 o1 o2 s1 s2 => ?_⟩
  · rw [List.getElem?_set_ne (ne j _ h (fun z => by cases z))]
    exact I.val j d h
  · rw [List.getElem?_set_ne (ne j _ h (fun z => by rw [z] at xo; cases xo))]
    exact I.own j f h xo
  · rw [List.getElem?_set_ne (ne j _ h1 (fun z => by rw [z] at o1; cases o1))] at s1
    rw [List.getElem?_set_ne (ne k _ h2 (fun z => by rw [z] at o2; cases o2))] at s2
    exact I.inj j k f g l h1 h2 o1 o2 s1 s2
theorem Free.anyUn {i : Nat} {x : Option V} (G : Free X π N0 H0 N H σ ρ ls) (hi : ρ[i]? = some .un ∨ ρ.length ≤ i) : Free X π N0 H0 N H (σ.set i x) ρ ls := by
  refine ⟨G.ok.anyUn hi, G.inn, fun j f l' h o s => G.no j f l' h o ?_⟩
  have ne : i ≠ j := fun z => by
    subst z
    rcases hi with q | q
    · rw [q] at h; cases h; cases o
    · rw [List.getElem?_eq_none q] at h; cases h
  rw [List.getElem?_set_ne ne] at s
  exact s
theorem Free.unset {i : Nat} (G : Free X π N0 H0 N H σ ρ ls) : Free X π N0 H0 N H σ (ρ.set i .un) ls := by
  refine ⟨G.ok.unset, G.inn, fun j f l' h o s => ?_⟩
  rcases at_set h with ⟨_, _, q⟩ | ⟨q, h⟩
  · subst q; cases o
  · exact G.no j f l' h o s
def sSpoilE (ml : Rho → T (List (List D))) (mv : Rho → T D) : Rho → T Out := fun ρ => (ml ρ).bind fun dss => cond (decide (dss.length ≤ 100000)) ((mv ρ).bind fun _ => .ret (.nx ρ)) .fail
/-- E.append(v), and no more of it -/
theorem ss_spoilE {E ve : Expr} {ml : Rho → T (List (List D))} {mv : Rho → T D} {apos cpos pos : Pos} (hE : SndLL X E ml) (hve : Snd X ve mv) (hbase : attributeBase E "append" X.env (eval E X.env) = eval E X.env := by rfl) (hse : starEach [ve] X.env = (false, eval ve X.env) :: starEach [] X.env := by rfl) (hpl : (backTo cpos (starEach [] X.env)).any (·.1) = false := by rfl)
    (hs : swapsWith (.Call (.Attribute E "append" apos) [ve] [] cpos) none pos.line X.env = pure false := by rfl)
    (hfew : ((((backTo cpos (starEach [ve] X.env)).all fun x => !x.fst) && (backToKw cpos (keywordEach [] X.env)).all fun x => x.fst.isSome) && decide (([ve].length + ([] : List Keyword).length + if ([] : List Keyword).isEmpty = true then 0 else 1) < 30)) = true := by rfl) (hline : (apos.endLine == cpos.line) = true := by rfl) :
    SndS X (.Expr (.Call (.Attribute E "append" apos) [ve] [] cpos) pos) (sSpoilE ml mv) := fun {π N0 H0 N H σ ρ De} I h =>
  ⟨_, ps_expr (pe_bm PySem.F.plainAttrs_list PySem.F.slot_list_append PySem.F.type_list_append mt_append pe_wp (pa_cons pe_wp pa_nil hse) (hbase := hbase) (hfew := hfew) (hline := hline) (hs := hse) (hplain := hpl)) hs, by
  refine hE I (T.all_mono (fun dss hd => ?_) (T.all_bind.mp h))
  intro l ls H2 e2 hl hls nd h2 r
  obtain ⟨hsm, hd⟩ := cond_all hd
  have G : Free X π N0 H0 (plusL N (l :: ls)) H2 σ ρ (l :: ls) := Free.of I e2 (fun q hq => by
    rcases List.mem_cons.mp hq with rfl | hq
    · exact hl
    · exact hls q hq) fun q hq => by
    rcases List.mem_cons.mp hq with rfl | hq
    · rw [h2]; exact fun z => by cases z
    · obtain ⟨us, g⟩ := r.there q hq
      rw [g]; exact fun z => by cases z
  refine ⟨.inl ⟨rfl, _, SqL.of h2⟩, hve G.ok (T.all_mono (fun d hd => ?_) (T.all_bind.mp hd))⟩
  intro v H3 e3 r3
  have G3 := G.ext e3
  have h3 := e3.kp l _ (N_ne G.ok.hn (G.inn l List.mem_cons_self).1) h2
  exact ⟨l, _, v, rfl, rfl, h3, by rw [List.length_map, r.length]; exact Nat.lt_of_le_of_lt (of_decide_eq_true hsm) (by decide), hd _ _ _ (G3.up List.mem_cons_self).ok⟩⟩
end
end Pd
namespace Pd
open PySem L2 PySem.Spec PyProof.Rows
section
variable {X : Cx} {π : Addr} {N0 N : Addr → Bool} {H0 H : Hp} {σ : L2.St} {ρ : Rho} {l : Addr} {ls : List Addr} {dss : List (List D)} {ve : Expr} {d : D}
theorem RvLs.drop {K : PySem.W.Frag} {P : Program} {w : World} (h : RvLs K P w π N H ls dss) : ∀ j, RvLs K P w π N H (ls.drop j) (dss.drop j) := by
  induction h with
  | nil => intro j; rw [List.drop_nil, List.drop_nil]; exact .nil
  | cons hl r t ih =>
    intro j
    cases j with
    | zero => exact .cons hl r t
    | succ j => exact ih j
theorem spoil_turns {D : Ends} {i : Nat} {r : Str} {p2 apos cpos epos : Pos} (hi : X.N[i]? = some r) (hv : Vis X.env.scope r) (hd : (r == ("__debug__" : Str)) = false) (hcd : (r == ("__classdict__" : Str)) = false) (hve : Snd X ve (eC d))
    (hse : starEach [ve] X.env = (false, eval ve X.env) :: starEach [] X.env) (hpl : (backTo cpos (starEach [] X.env)).any (·.1) = false) (hbase : attributeBase (.Name r p2) "append" X.env (eval (.Name r p2) X.env) = eval (.Name r p2) X.env)
    (hs : swapsWith (.Call (.Attribute (.Name r p2) "append" apos) [ve] [] cpos) none epos.line X.env = pure false)
    (hfew : ((((backTo cpos (starEach [ve] X.env)).all fun x => !x.fst) && (backToKw cpos (keywordEach [] X.env)).all fun x => x.fst.isSome) && decide (([ve].length + ([] : List Keyword).length + if ([] : List Keyword).isEmpty = true then 0 else 1) < 30)) = true) (hline : (apos.endLine == cpos.line) = true)
    (G : Free X π N0 H0 N H σ ρ (l :: ls)) (un : ρ[i]? = some .un) (hl : H l = some (.lst (ls.map V.ref))) (nd : (l :: ls).Nodup) (rl : RvLs X.K X.prog X.w π N H ls dss) (sm : ∀ ds ∈ dss, ds.length ≤ 100000) (fin : ∀ σ' H', Free X π N0 H0 N H' σ' ρ (l :: ls) → H' l = some (.lst (ls.map V.ref)) → (∀ j, j ≠ i → σ'[j]? = σ[j]?) → D.nx σ' H') :
    ∃ W : Nat → Nat → L2.St → Hp → Prop, (∃ m, W 0 m σ H) ∧ ∀ j m σ H, W j m σ H → ((Itl X.K l).stop j H ∧ D.nx σ H) ∨ ((Itl X.K l).go j H ∧ ∃ Nx : L2.St → Hp → Prop, (∀ σ' H', Nx σ' H' → ∃ m', m' < m ∧ W (j + 1) m' σ' H') ∧ ∀ x H', (Itl X.K l).yld j H x H' → gName i x σ H' fun σ2 H2 => wpSs X [.Expr (.Call (.Attribute (.Name r p2) "append" apos) [ve] [] cpos) epos] { D with nx := Nx, ct := Nx, bk := D.nx } σ2 H2) := by
  refine ⟨fun j m σ' H' => m = ls.length - j ∧ j ≤ ls.length ∧ Free X π N0 H0 N H' σ' ρ (l :: ls) ∧ H' l = some (.lst (ls.map V.ref)) ∧ (∀ j, j ≠ i → σ'[j]? = σ[j]?) ∧ RvLs X.K X.prog X.w π N H' (ls.drop j) (dss.drop j), ⟨ls.length, rfl, Nat.zero_le _, G, hl, (fun _ _ => rfl), rl⟩, ?_⟩
  rintro j m σ' H' ⟨rfl, hle, G', hl', so, rl'⟩
  have sq : SqL X.K H' l (ls.map V.ref) := SqL.of hl'
  by_cases hlt : j < ls.length
  · have hq : (ls.map V.ref)[j]? = some (V.ref ls[j]) := by rw [List.getElem?_map, List.getElem?_eq_getElem hlt]; rfl
    refine .inr ⟨⟨_, _, sq, hq⟩, fun σ'' H'' => Free X π N0 H0 N H'' σ'' ρ (l :: ls) ∧ H'' l = some (.lst (ls.map V.ref)) ∧ (∀ j, j ≠ i → σ''[j]? = σ[j]?) ∧ RvLs X.K X.prog X.w π N H'' (ls.drop (j + 1)) (dss.drop (j + 1)), fun σ'' H'' q => ⟨ls.length - (j + 1), by omega, rfl, hlt, q⟩, fun x H'' y => ?_⟩
    obtain ⟨rfl, y⟩ := y
    have ex := y _ sq
    rw [hq] at ex
    cases ex
    have Gs := G'.anyUn (x := some (V.ref ls[j])) (.inl un)
    have hlen : i < σ'.length := by rw [G'.ok.len]; exact (List.getElem?_eq_some_iff.mp un).1
    have at_ : (σ'.set i (some (V.ref ls[j])))[i]? = some (some (V.ref ls[j])) := List.getElem?_set_self hlen
    have dq : ls.drop j = ls[j] :: ls.drop (j + 1) := List.drop_eq_getElem_cons hlt
    have mem : ls[j] ∈ ls := List.getElem_mem hlt
    have ndl := (List.nodup_cons.mp nd).1
    have nq : ls[j] ≠ l := fun z => ndl (by rw [← z]; exact mem)
    have nds : (ls[j] :: ls.drop (j + 1)).Nodup := by rw [← dq]; exact (List.nodup_cons.mp nd).2.sublist (List.drop_sublist _ _)
    have hjl : j < dss.length := by rw [← rl.length]; exact hlt
    have dd : dss.drop j = dss[j] :: dss.drop (j + 1) := List.drop_eq_getElem_cons hjl
    rw [dq, dd] at rl'
    cases rl' with
    | cons hq2 rq t =>
      rename_i us
      have small : us.length < sizeLine := by
        rw [rq.length]
        exact Nat.lt_of_le_of_lt (sm _ (List.getElem_mem hjl)) (by decide)
      refine ⟨_, pss_one (ps_expr (pe_bm PySem.F.plainAttrs_list PySem.F.slot_list_append PySem.F.type_list_append mt_append (pe_var hi hv hd hcd) (pa_cons pe_wp pa_nil hse) (hbase := hbase) (hfew := hfew) (hline := hline) (hs := hse) (hplain := hpl)) hs), V.ref ls[j], at_, .inl ⟨rfl, _, SqL.of hq2⟩, hve Gs.ok ?_⟩
      intro v H3 e3 r3
      have G3 := Gs.ext e3
      have keep : ∀ a ∈ l :: ls, ∀ o, H'' a = some o → H3 a = some o := fun a ha o z => e3.kp a o (N_ne G'.ok.hn (G'.inn a ha).1) z
      have h3 := keep _ (List.mem_cons_of_mem _ mem) _ hq2
      refine ⟨ls[j], us, v, rfl, rfl, h3, small, G3.up (List.mem_cons_of_mem _ mem), ?_, (fun j hj => by rw [List.getElem?_set_ne hj.symm]; exact so j hj), t.mono (fun a o n z => ?_) fun q hq us2 z => ?_⟩
      · rw [upd_ne nq.symm]
        exact keep l List.mem_cons_self _ hl'
      · obtain ⟨na, ha⟩ := hide_some z
        have ne : a ≠ ls[j] := fun y => by rw [y, (G'.inn _ (List.mem_cons_of_mem _ mem)).1] at na; cases na
        rw [hide_in na, upd_ne ne]
        exact e3.kp a o n ha
      · have ne : q ≠ ls[j] := fun y => (List.nodup_cons.mp nds).1 (by rw [← y]; exact hq)
        rw [upd_ne ne]
        exact keep q (List.mem_cons_of_mem _ (List.mem_of_mem_drop hq)) _ z
  · exact .inl ⟨⟨_, sq, by rw [List.length_map]; omega⟩, fin _ _ G' hl' so⟩
def sSpoil (i : Nat) (ml : Rho → T (List (List D))) : Rho → T Out := fun ρ => (ml ρ).bind fun dss => cond (decide (i < ρ.length) && dss.all fun ds => decide (ds.length ≤ 100000)) (.ret (.nx (ρ.set i .un))) .fail
/-- for row in E: row.append(v), and no more of E -/
theorem ss_spoil (i : Nat) {E : Expr} {ml : Rho → T (List (List D))} {r : Str} {pr p2 apos cpos epos pos : Pos} (hp : PassesOwn (model X.prog X.w) X.A X.env X.xe) (hc : X.calm = true) (hN : X.N.Nodup) (hE : SndLL X E ml) (hve : Snd X ve (eC d)) (hi : X.N[i]? = some r := by rfl) (hx : Loc X.env.scope r := by first | exact .inl rfl | exact .inr rfl) (hf : X.fn r = true ∨ X.env.scope.names.lookup r = some .local := by first | exact .inl rfl | exact .inr rfl | assumption)
    (hv : Vis X.env.scope r := by first | exact Or.inl rfl | exact Or.inr (Or.inl rfl) | exact Or.inr (Or.inr rfl)) (hd : (r == ("__debug__" : Str)) = false := by decide) (hcd : (r == ("__classdict__" : Str)) = false := by decide)
    (hse : starEach [ve] X.env = (false, eval ve X.env) :: starEach [] X.env := by rfl) (hpl : (backTo cpos (starEach [] X.env)).any (·.1) = false := by rfl) (hbase : attributeBase (.Name r p2) "append" X.env (eval (.Name r p2) X.env) = eval (.Name r p2) X.env := by rfl)
    (hs : swapsWith (.Call (.Attribute (.Name r p2) "append" apos) [ve] [] cpos) none epos.line X.env = pure false := by rfl)
    (hfew : ((((backTo cpos (starEach [ve] X.env)).all fun x => !x.fst) && (backToKw cpos (keywordEach [] X.env)).all fun x => x.fst.isSome) && decide (([ve].length + ([] : List Keyword).length + if ([] : List Keyword).isEmpty = true then 0 else 1) < 30)) = true := by rfl) (hline : (apos.endLine == cpos.line) = true := by rfl) (hs2 : ∀ x, foldedSetIterable E X.env x = pure x := by intro _; rfl) :
    SndS X (.For (.Name r pr) E [.Expr (.Call (.Attribute (.Name r p2) "append" apos) [ve] [] cpos) epos] [] pos) (sSpoil i ml) := fun {π N0 H0 N H σ ρ De} I h =>
  ⟨_, ps_for hp hc (pi_list pe_wp) (pg_name hN hi hx hf) pss_wp hs2, by
  refine hE I (T.all_mono (fun dss hd2 => ?_) (T.all_bind.mp h))
  intro l ls H2 e2 hl hls nd h2 rl
  obtain ⟨hb, hd2⟩ := cond_all hd2
  rw [Bool.and_eq_true, decide_eq_true_iff, List.all_eq_true] at hb
  refine ⟨l, rfl, ⟨_, SqL.of h2⟩, ?_⟩
  have G : Free X π N0 H0 (plusL N (l :: ls)) H2 σ (ρ.set i .un) (l :: ls) := (Free.of I e2 (fun q hq => by
    rcases List.mem_cons.mp hq with rfl | hq
    · exact hl
    · exact hls q hq) fun q hq => by
    rcases List.mem_cons.mp hq with rfl | hq
    · rw [h2]; exact fun z => by cases z
    · obtain ⟨us, g⟩ := rl.there q hq
      rw [g]; exact fun z => by cases z).unset
  rw [← plusL_cons] at rl
  exact spoil_turns hi hv hd hcd hve hse hpl hbase hs hfew hline G (List.getElem?_set_self hb.1) h2 nd rl (fun ds m => of_decide_eq_true (hb.2 ds m)) fun σ' H' G' _ _ => hd2 _ _ _ G'.ok⟩
end
end Pd
namespace Pd
open PySem L2 PySem.Spec PyProof.Rows
mutual
def D.noL : D → Bool
  | .tup ds => D.noLs ds
  | .lst _ => false
  | .dic _ => false
  | .ins _ fs => D.noLf fs
  | .clo _ _ => false
  | _ => true
def D.noLs : List D → Bool
  | [] => true
  | d :: ds => D.noL d && D.noLs ds
def D.noLf : List (Str × D) → Bool
  | [] => true
  | (_, d) :: r => D.noL d && D.noLf r
end
section
variable {K : PySem.W.Frag} {P : Program} {w : World} {π : Addr} {N : Addr → Bool} {H : Hp} {ls : List Addr}
theorem hid_vis (hid : ∀ q ∈ ls, ∃ us, H q = some (.lst us)) {a : Addr} {o : HO} (h : Hide N H a = some o) (no : ∀ us, HO.lst us = o → False) : Hide (plusL N ls) H a = some o := by
  obtain ⟨na, ha⟩ := hide_some h
  have nl : a ∉ ls := fun z => by
    obtain ⟨us, g⟩ := hid a z
    rw [ha] at g
    cases g
    exact no us rfl
  rw [hide_in (plusL_no na nl)]
  exact ha
mutual
theorem Rv.noL (hid : ∀ q ∈ ls, ∃ us, H q = some (.lst us)) : ∀ {d : D} {v : V}, Rv K P w π (Hide N H) v d → D.noL d = true → Rv K P w π (Hide (plusL N ls) H) v d
  | _, _, .non, _ => .non
  | _, _, .bl b, _ => .bl b
  | _, _, .int i, _ => .int i
  | _, _, .str x, _ => .str x
  | _, _, .tup h n q, c => .tup (hid_vis hid h fun us e => by cases e) n (RvL.noL hid q c)
  | _, _, .tupK h q, c => .tupK h (RvL.noL hid q c)
  | _, _, .lst h n q, c => by unfold D.noL at c; cases c
  | _, _, .dic h n q, c => by unfold D.noL at c; cases c
  | _, _, .pot, _ => .pot
  | _, _, .fn c h, _ => .fn c h
  | _, _, .rng h n, _ => .rng (hid_vis hid h fun us e => by cases e) n
  | _, _, .dik h n, _ => .dik (hid_vis hid h fun us e => by cases e) n
  | _, _, .clo _ _ _ _ _ _ _, c => by unfold D.noL at c; cases c
  | _, _, .ins cc h n q, c => .ins cc (hid_vis hid h fun us e => by cases e) n (RvF.noL hid q c)
theorem RvL.noL (hid : ∀ q ∈ ls, ∃ us, H q = some (.lst us)) : ∀ {ds : List D} {us : List V}, RvL K P w π (Hide N H) us ds → D.noLs ds = true → RvL K P w π (Hide (plusL N ls) H) us ds
  | _, _, .nil, _ => .nil
  | _, _, .cons r t, c => by
    unfold D.noLs at c
    rw [Bool.and_eq_true] at c
    exact .cons (Rv.noL hid r c.1) (RvL.noL hid t c.2)
theorem RvF.noL (hid : ∀ q ∈ ls, ∃ us, H q = some (.lst us)) : ∀ {ds : List (Str × D)} {us : List (Str × V)}, RvF K P w π (Hide N H) us ds → D.noLf ds = true → RvF K P w π (Hide (plusL N ls) H) us ds
  | _, _, .nil, _ => .nil
  | _, _, .cons r t, c => by
    unfold D.noLf at c
    rw [Bool.and_eq_true] at c
    exact .cons (Rv.noL hid r c.1) (RvF.noL hid t c.2)
end
theorem RvLs.noL {M : Addr → Bool} {qs : List Addr} {dss : List (List D)} (hid : ∀ q ∈ ls, ∃ us, H q = some (.lst us)) (h : RvLs K P w π M H qs dss) (c : ∀ ds ∈ dss, D.noLs ds = true) : RvLs K P w π (plusL M ls) H qs dss := by
  induction h with
  | nil => exact .nil
  | cons hl r t ih => exact .cons hl (r.noL hid (c _ List.mem_cons_self)) (ih fun ds m => c ds (List.mem_cons_of_mem _ m))
end
abbrev FL : Type := List (Str × D) × List (List D)
def spIF (K : PySem.W.Frag) (P : Program) (w : World) (c f : Str) (n : Nat) (F : List D → T FL) : Sp := fun vs H Q _ => ∃ (π : Addr) (N : Addr → Bool) (x dx C : Addr) (args : List V) (ds : List D), vs = .ref x :: args ∧ args.length = n ∧ HN π N H ∧ N x = true ∧ H x = some (.ins C dx []) ∧ ClsAt K c C ∧ RvL K P w π (Hide N H) args ds ∧
  (F ds).all fun r => ∀ (H' : Hp) (fv : List (Str × V)) (l : Addr) (ls : List Addr), (∀ a o, a ≠ π → a ≠ x → H a = some o → H' a = some o) → PotOk H' π → H' x = some (.ins C dx (putF f (.ref l) fv)) → RvF K P w π (Hide N H') fv r.1 → fieldD f r.1 = none → H l = none → (∀ q ∈ ls, H q = none) → (l :: ls).Nodup → H' l = some (.lst (ls.map V.ref)) → RvLs K P w π (plusL (plus N l) ls) H' ls r.2 → Q .non H'
abbrev MIL : Type := Rho → List (Str × D) → T FL
def iChkL (m : Rho → T D) (k : MIL) : MIL := fun ρ fs => (m ρ).bind fun _ => k ρ fs
def iIfL (mt : Rho → T Bool) (k : MIL) : MIL := fun ρ fs => (mt ρ).bind fun b => cond b .fail (k ρ fs)
def iFldL (f : Str) (m : Rho → T D) (k : MIL) : MIL := fun ρ fs => (m ρ).bind fun d => cond ((fieldD f fs).isNone && decide (fs.length < 100)) (k ρ (fs ++ [(f, d)])) .fail
def iLast (f : Str) (ml : Rho → T (List (List D))) : MIL := fun ρ fs => (ml ρ).bind fun dss => cond ((fieldD f fs).isNone && decide (fs.length < 100)) (.ret (fs, dss)) .fail
def FinL (X : Cx) (π : Addr) (N : Addr → Bool) (H : Hp) (x C dx : Addr) (f : Str) (De : Ends) : FL → Prop := fun r => ∀ (H' : Hp) (fv : List (Str × V)) (l : Addr) (ls : List Addr), (∀ a o, a ≠ π → a ≠ x → H a = some o → H' a = some o) → PotOk H' π → H' x = some (.ins C dx (putF f (.ref l) fv)) → RvF X.K X.prog X.w π (Hide N H') fv r.1 → fieldD f r.1 = none → H l = none → (∀ q ∈ ls, H q = none) → (l :: ls).Nodup → H' l = some (.lst (ls.map V.ref)) → RvLs X.K X.prog X.w π (plusL (plus N l) ls) H' ls r.2 → ∀ σ', De.nx σ' H'
theorem FinL.up {X : Cx} {π : Addr} {N : Addr → Bool} {H H2 : Hp} {x C dx : Addr} {f : Str} {De : Ends} {r : FL} (h : FinL X π N H x C dx f De r) (k : ∀ a o, a ≠ π → a ≠ x → H a = some o → H2 a = some o) (pt : PotOk H2 π) (hx : H2 x ≠ none) : FinL X π N H2 x C dx f De r := fun H' fv l ls a b c d g hl hls nd h2 rl => by
  have back : ∀ q, H2 q = none → H q = none := fun q hq => by
    cases e : H q with
    | none => rfl
    | some o =>
      have n1 := pt.ne hq
      have n2 : q ≠ x := fun z => hx (by rw [← z]; exact hq)
      rw [k q o n1 n2 e] at hq
      cases hq
  exact h H' fv l ls (fun y o y1 y2 z => a y o y1 y2 (k y o y1 y2 z)) b c d g (back l hl) (fun q hq => back q (hls q hq)) nd h2 rl
section
variable (X : Cx)
def SndInL (c0 f : Str) (sts : List Stmt) (k : MIL) : Prop := ∀ ⦃π : Addr⦄ ⦃N0 : Addr → Bool⦄ ⦃H0 : Hp⦄ ⦃N : Addr → Bool⦄ ⦃H : Hp⦄ ⦃σ : L2.St⦄ ⦃ρ : Rho⦄ ⦃De : Ends⦄ ⦃x C dx : Addr⦄ ⦃fv : List (Str × V)⦄ ⦃fs : List (Str × D)⦄, EnvOk X.K X.prog X.w π N0 H0 N H σ ρ → σ[0]? = some (some (.ref x)) → N x = true → N0 x = false →
  (∀ (j : Nat) (f : Ent), ρ[j]? = some f → f.isOwn = false) → Cls X.K C → ClsAt X.K c0 C → H x = some (.ins C dx fv) → RvF X.K X.prog X.w π (Hide N H) fv fs →
  (k ρ fs).all (FinL X π N H x C dx f De) → wpSs X sts De σ H
end
section
variable {X : Cx} {c0 fl : Str} {rest bd : List Stmt} {e c : Expr} {m : Rho → T D} {mt : Rho → T Bool} {ml : Rho → T (List (List D))} {k : MIL} {pos : Pos}
theorem inl_chk (he : Snd X e m) (hr : SndInL X c0 fl rest k) (hs : swapsWith e none pos.line X.env = pure false := by rfl) : SndInL X c0 fl (.Expr e pos :: rest) (iChkL m k) := fun {π N0 H0 N H σ ρ De x C dx fv fs} I h0 hx n0 own cl at0 hH rf q =>
  ⟨_, pss_cons (ps_expr pe_wp hs) pss_wp, he I (T.all_mono (fun d hd => by
    intro v H2 e2 r
    have xp := N_ne I.hn hx
    have hx2 := e2.kp x _ xp hH
    refine hr (I.ext e2) h0 hx n0 own cl at0 hx2 (rf.mono e2.kp.hide) (T.all_mono (fun gs g => g.up (fun a o n _ z => e2.kp a o n z) e2.pot (by rw [hx2]; exact fun z => by cases z)) hd)) (T.all_bind.mp q))⟩
theorem inl_if (hc : SndT X c mt) (hr : SndInL X c0 fl rest k) : SndInL X c0 fl (.If c bd [] pos :: rest) (iIfL mt k) := fun {π N0 H0 N H σ ρ De x C dx fv fs} I h0 hx n0 own cl at0 hH rf q =>
  ⟨_, pss_cons (ps_if pt_wp pss_wp pss_nil) pss_wp, hc I (T.all_mono (fun b hb H2 e2 => by
    cases b with
    | true => exact False.elim hb
    | false =>
      have xp := N_ne I.hn hx
      have hx2 := e2.kp x _ xp hH
      exact iteF (hr (I.ext e2) h0 hx n0 own cl at0 hx2 (rf.mono e2.kp.hide) (T.all_mono (fun gs g => g.up (fun a o n _ z => e2.kp a o n z) e2.pot (by rw [hx2]; exact fun z => by cases z)) hb))) (T.all_bind.mp q))⟩
theorem rvF_len {K : PySem.W.Frag} {P : Program} {w : World} {π : Addr} {H : Hp} : ∀ {ds : List (Str × D)} {vs : List (Str × V)}, RvF K P w π H vs ds → vs.length = ds.length
  | _, _, .nil => rfl
  | _, _, .cons _ t => congrArg Nat.succ (rvF_len t)
theorem inl_fld {f x0 : Str} {p pos' : Pos} (he : Snd X e m) (hr : SndInL X c0 fl rest k) (no : ∀ C, ClsAt X.K c0 C → NoAttr X.K C f) (hN : X.N[0]? = some x0 := by rfl) (hv : Vis X.env.scope x0 := by first | exact Or.inl rfl | exact Or.inr (Or.inl rfl) | exact Or.inr (Or.inr rfl)) (hd : (x0 == ("__debug__" : Str)) = false := by decide)
    (hcd : (x0 == ("__classdict__" : Str)) = false := by decide) (hs : swapsWith e (some (.Attribute (.Name x0 p) f pos')) pos.line X.env = pure false := by rfl) : SndInL X c0 fl (.Assign [.Attribute (.Name x0 p) f pos'] e pos :: rest) (iFldL f m k) := fun {π N0 H0 N H σ ρ De x C dx fv fs} I h0 hx n0 own cl at0 hH rf q =>
  ⟨_, pss_cons (ps_fld (pe_var hN hv hd hcd) pe_wp hs) pss_wp, he I (T.all_mono (fun d hd => by
    intro v H2 e2 r
    obtain ⟨hb, hd⟩ := cond_all hd
    simp only [Bool.and_eq_true, Option.isNone_iff_eq_none, decide_eq_true_eq] at hb
    have xp := N_ne I.hn hx
    have hx2 := e2.kp x _ xp hH
    have rf2 := rf.mono e2.kp.hide
    have hide : ∀ o, Hide N (upd H2 x o) = Hide N H2 := fun o => by
      funext a
      by_cases z : a = x
      · subst z; simp [Hide, hx]
      · unfold Hide; rw [upd_ne z]
    have pt : ∀ o, PotOk (upd H2 x o) π := fun o => by
      obtain ⟨a, b, q, r⟩ := e2.pot
      exact ⟨a, b, by rw [upd_ne xp.symm]; exact q, r⟩
    refine ⟨.ref x, h0, x, C, dx, fv, rfl, hx2, cl, no C at0, by rw [rvF_len rf]; omega, ?_⟩
    refine hr ((I.ext e2).upHid hx n0 (fun j g l' h1 o1 _ => by rw [own j g h1] at o1; cases o1)) h0 hx n0 own cl at0 upd_same (by rw [hide]; exact rf2.add hb.1 r) (T.all_mono (fun gs g => g.up (fun a o n n2 z => by rw [upd_ne n2]; exact e2.kp a o n z) (pt _) (by rw [upd_same]; exact fun z => by cases z)) hd)) (T.all_bind.mp q))⟩
theorem inl_last {x0 : Str} {p pos' : Pos} (he : SndLL X e ml) (no : ∀ C, ClsAt X.K c0 C → NoAttr X.K C fl) (hN : X.N[0]? = some x0 := by rfl) (hv : Vis X.env.scope x0 := by first | exact Or.inl rfl | exact Or.inr (Or.inl rfl) | exact Or.inr (Or.inr rfl)) (hd : (x0 == ("__debug__" : Str)) = false := by decide)
    (hcd : (x0 == ("__classdict__" : Str)) = false := by decide) (hs : swapsWith e (some (.Attribute (.Name x0 p) fl pos')) pos.line X.env = pure false := by rfl) : SndInL X c0 fl [.Assign [.Attribute (.Name x0 p) fl pos'] e pos] (iLast fl ml) := fun {π N0 H0 N H σ ρ De x C dx fv fs} I h0 hx n0 own cl at0 hH rf q =>
  ⟨_, pss_one (ps_fld (pe_var hN hv hd hcd) pe_wp hs), he I (T.all_mono (fun dss hd => by
    intro l ls H2 e2 hl hls nd h2 rl
    obtain ⟨hb, hd⟩ := cond_all hd
    simp only [Bool.and_eq_true, Option.isNone_iff_eq_none, decide_eq_true_eq] at hb
    have xp := N_ne I.hn hx
    have hx2 := e2.kp x _ xp hH
    have rf2 := rf.mono e2.kp.hide
    have lx : l ≠ x := fun z => by rw [z, hH] at hl; cases hl
    have hide : ∀ (M : Addr → Bool) o, M x = true → Hide M (upd H2 x o) = Hide M H2 := fun M o hM => by
      funext a
      by_cases z : a = x
      · subst z; simp [Hide, hM]
      · unfold Hide; rw [upd_ne z]
    refine ⟨.ref x, h0, x, C, dx, fv, rfl, hx2, cl, no C at0, by rw [rvF_len rf]; omega, ?_⟩
    refine hd _ fv l ls (fun a o n n2 z => by rw [upd_ne n2]; exact e2.kp a o n z) ?_ upd_same (by rw [hide N _ hx]; exact rf2) hb.1 hl hls nd (by rw [upd_ne lx]; exact h2) (rl.mono (by rw [hide _ _ (plusL_old (plus_old hx))]; exact .refl) fun a ha us z => ?_) σ
    · obtain ⟨a, b, q, r⟩ := e2.pot
      exact ⟨a, b, by rw [upd_ne xp.symm]; exact q, r⟩
    · have ne : a ≠ x := fun y => by
        have := hls a ha
        rw [y, hH] at this
        cases this
      rw [upd_ne ne]
      exact z) (T.all_bind.mp q))⟩
end
section
variable {P : Program} {w : World} {K : PySem.W.Frag} {mg : Str → Option Value} {base : Heap}
def runIL (n : Nat) (k : MIL) : List D → T FL := fun ds => k (Ent.un :: (ds.map Ent.val ++ List.replicate (n - ds.length) Ent.un)) []
theorem init_okL {qual c fl : Str} {st : Stmt} {f : Addr} {fd : FuncData} {Nm ps : List Str} {k n p : Nat} {C : Addr} {dvs : List V} {ki : MIL} (F : FunD K "__init__" qual (defArgs st) (defBody st) (defScope st) dvs [] f fd) (S : FnScope Nm ps (defScope st)) (hn : Nm.length = n + 1) (hp : ps.length = p + 1) (cl : Cls K C) (at_ : ClsAt K c C)
    (hb : ∀ (cdv : Value) (A : Around) (outer : List Env) (s : Shared) (H : Hp) (E : XK), Room k (A.deeper (PyProof.Rows.envOfC qual (defScope st) s.heap.objs.size f cdv)) → SndInL (cxOf CX0 P w K mg base Nm qual (defScope st) f cdv A outer s H E).nox c fl (defBody st) ki) :
    FnOk P w K mg base CX0 (k + 1) f fd ps (spIF K P w c fl p (runIL n ki)) := by
  refine F.ok (k := k) S (fun vs H Q E h => ?_) (fun cdv A outer s H vs Q E hr h => ?_)
  · obtain ⟨π, N, x, dx, C, args, ds, rfl, hl, _⟩ := h
    rw [List.length_cons, hl, hp]
  · suffices z : wpSs (cxOf CX0 P w K mg base Nm qual (defScope st) f cdv A outer s H E).nox (defBody st) { nx := fun _ H' => Q .non H', rt := Q } (L2.start Nm vs) H by
      obtain ⟨t, a, b⟩ := z
      exact ⟨t, a.nox, b⟩
    obtain ⟨π, N, x, dx, C2, args, ds, rfl, hl, hn2, Nx, hx, hc, ra, hall⟩ := h
    have ec := at_.one hc
    subst ec
    have xpi := N_ne hn2 Nx
    have l1 := ra.length
    have E0 : EnvOk K P w π (minus N x) (fun a => if a = x then none else H a) N H (L2.start Nm (.ref x :: args)) (Ent.un :: (ds.map Ent.val ++ List.replicate (n - ds.length) Ent.un)) := by
      have s0 := env_start (Nm := Nm.drop 1) hn2 ra
      have len : (Nm.drop 1).length = n := by rw [List.length_drop, hn]; rfl
      rw [len] at s0
      have st0 : L2.start Nm (V.ref x :: args) = some (V.ref x) :: L2.start (Nm.drop 1) args := by
        unfold L2.start
        rw [List.map_cons, List.cons_append, len, hn, List.length_cons, show n + 1 - (args.length + 1) = n - args.length by omega]
      rw [st0]
      have J := s0.consUn (some (.ref x))
      refine ⟨J.hn, fun a o n1 h => ?_, fun a h => (minus_in h).1, fun a h => ?_, J.len, J.val, fun j y hy yo => ?_, J.inj⟩
      · by_cases z : a = x
        · subst z; simp at h
        · simpa [z] using h
      · by_cases z : a = x
        · subst z; exact .inr (by simp)
        · exact .inl (minus_of h z)
      · exfalso
        cases j with
        | zero => cases hy; cases yo
        | succ j =>
          have hy' : (ds.map Ent.val ++ List.replicate (n - ds.length) Ent.un)[j]? = some y := hy
          rcases List.mem_append.mp (List.mem_of_getElem? hy') with z | z
          · obtain ⟨d, _, rfl⟩ := List.mem_map.mp z; cases yo
          · rw [(List.mem_replicate.mp z).2] at yo; cases yo
    refine hb cdv A outer s H E hr E0 ?_ Nx minus_self (fun j g hg => ?_) cl at_ hx .nil (T.all_mono (fun gs g => fun H' fv l ls a b c d e f1 f2 f3 f4 f5 _ => g H' fv l ls a b c d e f1 f2 f3 f4 f5) hall)
    · unfold L2.start
      rfl
    · cases j with
      | zero => cases hg; rfl
      | succ j =>
        have hy' : (ds.map Ent.val ++ List.replicate (n - ds.length) Ent.un)[j]? = some g := hg
        rcases List.mem_append.mp (List.mem_of_getElem? hy') with z | z
        · obtain ⟨d, _, rfl⟩ := List.mem_map.mp z; rfl
        · rw [(List.mem_replicate.mp z).2]; rfl
end
end Pd
namespace Pd
open PySem L2 PySem.Spec PyProof.Rows
section
variable (X : Cx)
def SndSLL (i : Nat) (st : Stmt) (ml : Rho → T (List (List D))) : Prop := ∀ ⦃π : Addr⦄ ⦃N0 : Addr → Bool⦄ ⦃H0 : Hp⦄ ⦃N : Addr → Bool⦄ ⦃H : Hp⦄ ⦃σ : L2.St⦄ ⦃ρ : Rho⦄ ⦃De : Ends⦄, EnvOk X.K X.prog X.w π N0 H0 N H σ ρ → (ml ρ).all (Kll X π N H fun x H1 => De.nx (σ.set i (some x)) H1) → wpS X st De σ H
end
section
variable {X : Cx} {tg it elt : Expr} {ifs : List Expr} {scope : Scope} {pos : Pos} {mi : Rho → T (List D)} {g : D → Rho → T Rho} {mt : Rho → T Bool} {me : Rho → T (List D)}
theorem sls_lc {i : Nat} {y : Str} {py spos : Pos} (own : List (Str × Nat)) {vs : List Nat} (hv : own.map (·.2) = vs) (hc : X.calm = true) (hN : X.N.Nodup) (ok : BlkOk X.N X.env.scope scope own) (hi : SndI X tg it mi) (hg : ∀ s Hh C cl fp, SndGw (X.blk s Hh scope (compEnvC scope cl C X.env) fp) vs tg g) (ht : ∀ s Hh C cl fp, SndTs (X.blk s Hh scope (compEnvC scope cl C X.env) fp) ifs mt) (he : ∀ s Hh C cl fp, SndL (X.blk s Hh scope (compEnvC scope cl C X.env) fp) elt me)
    (hsw : swapsWith (.ListComp elt [⟨tg, it, ifs, 0⟩] scope pos) (some (.Name y py)) spos.line X.env = pure true) (hy : X.N[i]? = some y := by rfl) (hyl : X.env.scope.names.lookup y = some .local := by rfl) (hs : ∀ x, foldedSetIterable it X.env x = pure x := by intro _; rfl) : SndSLL X i (.Assign [.Name y py] (.ListComp elt [⟨tg, it, ifs, 0⟩] scope pos) spos) (lCompLL vs mi g mt me) := fun {π N0 H0 N H σ ρ De} I h =>
  ⟨_, ps_setLc (g := bG X scope tg) (tt := bT X scope ifs) (te := bE X scope elt) hc hN hy hyl hsw pi_wp ok (fun s H C cl fp => ⟨fun pins s' σ H' v u Q I r h => pg_wp.run pins s' σ H' v u Q I r (h s H C cl fp)⟩) (fun s H C cl fp => ⟨fun pins s' σ H' Q I h => pts_wp.run pins s' σ H' Q I (h s H C cl fp)⟩)
    (fun s H C cl fp => ⟨fun pins s' σ H' Q I h => pe_wp.run pins s' σ H' Q I (h s H C cl fp)⟩) hs, by
    rw [hv]
    exact lcl_run (Q := fun x H1 => De.nx (σ.set i (some x)) H1) hi hg ht he I h⟩
end
theorem Free.set {X : Cx} {π : Addr} {N0 N : Addr → Bool} {H0 H : Hp} {σ : L2.St} {ρ : Rho} {ls : List Addr} {i : Nat} {v : V} {d : D} (G : Free X π N0 H0 N H σ ρ ls) (r : Rv X.K X.prog X.w π (Hide N H) v d) : Free X π N0 H0 N H (σ.set i (some v)) (ρ.set i (.val d)) ls := by
  refine ⟨G.ok.set r, G.inn, fun j f l' h o s => ?_⟩
  rcases at_set h with ⟨_, _, q⟩ | ⟨q, h⟩
  · subst q; cases o
  · rw [List.getElem?_set_ne q] at s
    exact G.no j f l' h o s
/-- xs: slot i, o: slot j, x: slot k -/
def sLend (i j k : Nat) (c f : Str) (F : List D → T FL) (m1 : Rho → T (List (List D))) (mw : Rho → T D) : Rho → T Out := fun ρ => cond (decide (i < ρ.length) && decide (k < ρ.length)) ((m1 ρ).bind fun dss => (mw (ρ.set i .un)).bind fun dw => (F [dw, .lst (dss.map D.lst)]).bind fun r =>
  cond (D.noLf r.1 && (r.2.all D.noLs) && decide (dss.length ≤ 100000) && (dss.all fun ds => decide (ds.length ≤ 100000)))
    (.ret (.nx (((ρ.set i .un).set j (.val (.ins c (r.1 ++ [(f, .lst (r.2.map D.lst))])))).set k .un))) .fail) .fail
section
variable {X : Cx}
theorem b_lend (i j k : Nat) {kc : Nat} {s1 : Stmt} {rest : List Stmt} {m1 : Rho → T (List (List D))} {mw : Rho → T D} {mr : Rho → T Out} {C fa : Addr} {fd : FuncData} {ps : List Str} {c f x y r : Str} {we ve ze : Expr} {du dz : D} {F : List D → T FL} {p1 p2 p3 p4 p5 p6 p7 p8 p9 p10 p12 p13 p14 p15 : Pos}
    (M : Mk X.K C fa) (Gf : FnOk X.prog X.w X.K X.mg X.base CX0 kc fa fd ps (spIF X.K X.prog X.w c f 2 F)) (hrm : Room (kc + 1) X.A) (hm : X.mg c = some (.ref C)) (at_ : ClsAt X.K c C) (hb : Binds X.K fd ps [])
    (hp : PassesOwn (model X.prog X.w) X.A X.env X.xe) (hc : X.calm = true) (nd : X.N.Nodup) (h1 : SndSLL X i s1 m1) (hw : Snd X we mw) (hve : Snd X ve (eC du)) (hze : Snd X ze (eC dz)) (hrest : SndB X rest mr)
    (hij : i ≠ j := by decide) (hik : i ≠ k := by decide) (hjk : j ≠ k := by decide)
    (hNi : X.N[i]? = some x := by rfl) (hNj : X.N[j]? = some y := by rfl) (hNk : X.N[k]? = some r := by rfl) (hvx : Vis X.env.scope x := by first | exact Or.inl rfl | exact Or.inr (Or.inl rfl) | exact Or.inr (Or.inr rfl)) (hvr : Vis X.env.scope r := by first | exact Or.inl rfl | exact Or.inr (Or.inl rfl) | exact Or.inr (Or.inr rfl))
    (hly : Loc X.env.scope y := by first | exact .inl rfl | exact .inr rfl) (hfy : X.fn y = true ∨ X.env.scope.names.lookup y = some .local := by first | exact .inl rfl | exact .inr rfl) (hlr : Loc X.env.scope r := by first | exact .inl rfl | exact .inr rfl) (hfr : X.fn r = true ∨ X.env.scope.names.lookup r = some .local := by first | exact .inl rfl | exact .inr rfl)
    (hdx : (x == ("__debug__" : Str)) = false := by decide) (hcx : (x == ("__classdict__" : Str)) = false := by decide) (hdr : (r == ("__debug__" : Str)) = false := by decide) (hcr : (r == ("__classdict__" : Str)) = false := by decide) (hg : Gl X c := by rfl) (hdc : (c == ("__debug__" : Str)) = false := by decide)
    (hs1 : starEach [we, .Name x p1] X.env = (false, eval we X.env) :: starEach [.Name x p1] X.env := by rfl) (hs2 : starEach [.Name x p1] X.env = (false, eval (.Name x p1) X.env) :: starEach [] X.env := by rfl) (hpl1 : (backTo p3 (starEach [.Name x p1] X.env)).any (·.1) = false := by rfl)
    (hsw2 : swapsWith (.Call (.Name c p2) [we, .Name x p1] [] p3) (some (.Name y p4)) p5.line X.env = pure false := by rfl)
    (hse : starEach [ve] X.env = (false, eval ve X.env) :: starEach [] X.env := by rfl) (hpl : (backTo p8 (starEach [] X.env)).any (·.1) = false := by rfl) (hbase : attributeBase (.Name r p6) "append" X.env (eval (.Name r p6) X.env) = eval (.Name r p6) X.env := by rfl)
    (hsw3 : swapsWith (.Call (.Attribute (.Name r p6) "append" p7) [ve] [] p8) none p9.line X.env = pure false := by rfl)
    (hfew : ((((backTo p8 (starEach [ve] X.env)).all fun x => !x.fst) && (backToKw p8 (keywordEach [] X.env)).all fun x => x.fst.isSome) && decide (([ve].length + ([] : List Keyword).length + if ([] : List Keyword).isEmpty = true then 0 else 1) < 30)) = true := by rfl) (hline : (p7.endLine == p8.line) = true := by rfl)
    (hfi : ∀ z, foldedSetIterable (.Name x p10) X.env z = pure z := by intro _; rfl)
    (hse4 : starEach [ze] X.env = (false, eval ze X.env) :: starEach [] X.env := by rfl) (hpl4 : (backTo p14 (starEach [] X.env)).any (·.1) = false := by rfl) (hbase4 : attributeBase (.Name x p12) "append" X.env (eval (.Name x p12) X.env) = eval (.Name x p12) X.env := by rfl)
    (hsw4 : swapsWith (.Call (.Attribute (.Name x p12) "append" p13) [ze] [] p14) none p15.line X.env = pure false := by rfl)
    (hfew4 : ((((backTo p14 (starEach [ze] X.env)).all fun x => !x.fst) && (backToKw p14 (keywordEach [] X.env)).all fun x => x.fst.isSome) && decide (([ze].length + ([] : List Keyword).length + if ([] : List Keyword).isEmpty = true then 0 else 1) < 30)) = true := by rfl) (hline4 : (p13.endLine == p14.line) = true := by rfl) {pr p16 : Pos} :
    SndB X (s1 :: .Assign [.Name y p4] (.Call (.Name c p2) [we, .Name x p1] [] p3) p5 :: .For (.Name r pr) (.Name x p10) [.Expr (.Call (.Attribute (.Name r p6) "append" p7) [ve] [] p8) p9] [] p16 :: .Expr (.Call (.Attribute (.Name x p12) "append" p13) [ze] [] p14) p15 :: rest) (bSeq (sLend i j k c f F m1 mw) mr) := fun {π N0 H0 N H σ ρ De} I h => by
  refine ⟨_, pss_cons ps_wp (pss_cons (ps_set nd hNj hly (pe_make M Gf hrm hg hm hb .nil pass0 (pa_cons pe_wp (pa_cons (pe_var hNi hvx hdx hcx) pa_nil hs2) hs1) hdc hs1 hpl1) hsw2 hfy) (pss_cons (ps_for hp hc (pi_list (pe_var hNi hvx hdx hcx)) (pg_name nd hNk hlr hfr) pss_wp hfi) (pss_cons (ps_expr (pe_bm PySem.F.plainAttrs_list PySem.F.slot_list_append PySem.F.type_list_append mt_append (pe_var hNi hvx hdx hcx) (pa_cons pe_wp pa_nil hse4) (hbase := hbase4) (hfew := hfew4) (hline := hline4) (hs := hse4) (hplain := hpl4)) hsw4) pss_wp))), ?_⟩
  have h := T.all_bind.mp h
  unfold sLend at h
  obtain ⟨hlen, h⟩ := cond_all h
  rw [Bool.and_eq_true, decide_eq_true_iff, decide_eq_true_iff] at hlen
  obtain ⟨il, c7⟩ := hlen
  have h := T.all_bind.mp h
  refine h1 I (T.all_mono (fun dss hd => ?_) h)
  intro l ls H1 e1 hl hls ndl hl1 rl
  have hd := T.all_bind.mp hd
  have G1 : Free X π N0 H0 (plusL N (l :: ls)) H1 (σ.set i (some (.ref l))) (ρ.set i .un) (l :: ls) := by
    have A := (Free.of I e1 (ls := l :: ls) (fun q hq => by
      rcases List.mem_cons.mp hq with rfl | hq
      · exact hl
      · exact hls q hq) fun q hq => by
      rcases List.mem_cons.mp hq with rfl | hq
      · rw [hl1]; exact fun z => by cases z
      · obtain ⟨us, g⟩ := rl.there q hq
        rw [g]; exact fun z => by cases z).unset (i := i)
    refine A.anyUn ?_
    by_cases c : i < ρ.length
    · exact .inl (List.getElem?_set_self c)
    · exact .inr (by rw [List.length_set]; omega)
  refine hw G1.ok (T.all_mono (fun dw hdw => ?_) hd)
  intro v H2 e2 r2
  have hdw := T.all_bind.mp hdw
  have G2 := G1.ext e2
  have keep2 : ∀ q ∈ l :: ls, ∀ o, H1 q = some o → H2 q = some o := fun q hq o z => e2.kp q o (N_ne G1.ok.hn (G1.inn q hq).1) z
  have lpi : ∀ q ∈ l :: ls, q ≠ π := fun q hq => N_ne G1.ok.hn (G1.inn q hq).1
  have Nfr : ∀ q ∈ l :: ls, N q = false := fun q hq => by
    rcases List.mem_cons.mp hq with rfl | hq
    · exact I.hn.new hl
    · exact I.hn.new (hls q hq)
  have rl2 : RvLs X.K X.prog X.w π (plusL (plus N l) ls) H2 ls dss := rl.mono (by rw [← plusL_cons]; exact e2.kp.hide) fun q hq us z => keep2 q (List.mem_cons_of_mem _ hq) _ z
  have hl2 := keep2 l List.mem_cons_self _ hl1
  have e12 := e1.trans e2
  have hn2 := I.hn.ext e12
  have less : Kp π (Hide (plusL N (l :: ls)) H2) (Hide N H2) := Kp.less fun a z => plusL_old z
  have at1 : (σ.set i (some (V.ref l)))[i]? = some (some (V.ref l)) := List.getElem?_set_self (by rw [I.len]; exact il)
  refine ⟨.ref l, at1, fun x0 dx hx hdx2 ne => ?_⟩
  obtain ⟨a1, a2, a3⟩ := made_env (C := C) hn2 hx hdx2 ne
  have Nx : N x0 = false := hn2.new hx
  have xls : x0 ∉ l :: ls := fun z => by
    rcases List.mem_cons.mp z with z | z
    · rw [z, hl2] at hx; cases hx
    · obtain ⟨us, g⟩ := rl2.there x0 z
      rw [hx] at g; cases g
  have rgiven : Rv X.K X.prog X.w π (Hide N H2) (.ref l) (.lst (dss.map D.lst)) := .lst (by rw [hide_in (Nfr l List.mem_cons_self)]; exact hl2) (lpi l List.mem_cons_self) (rl2.out (Kp.less fun a z => plusL_old (plus_old z)) fun q hq => ⟨Nfr q (List.mem_cons_of_mem _ hq), lpi q (List.mem_cons_of_mem _ hq)⟩)
  refine ⟨π, plus N x0, x0, dx, C, [v, .ref l] ++ [], [dw, .lst (dss.map D.lst)], rfl, rfl, a1, plus_self, upd_same, at_, (RvL.cons ((r2.mono less).mono a2) (.cons (rgiven.mono a2) .nil)), T.all_mono (fun rr q H3 fv l3 ls3 kp3 pot3 hx3 rf3 fn3 hl3 hls3 nd3 h3 rl3 => ⟨rfl, ?_⟩) hdw⟩
  obtain ⟨hcond, q⟩ := cond_all q
  simp only [Bool.and_eq_true, decide_eq_true_eq, List.all_eq_true] at hcond
  obtain ⟨⟨⟨c2, c3⟩, c4⟩, c5⟩ := hcond
  have e3 : Ex π H2 H3 := ⟨fun a o n z => kp3 a o n (ne_of_none z hx) (a3 a o z), pot3⟩
  have G3 := G2.ext e3
  have hid3 : ∀ p ∈ l :: ls, ∃ us, H3 p = some (.lst us) := fun p hp => by
    rcases List.mem_cons.mp hp with rfl | hp
    · exact ⟨_, e3.kp p _ (lpi p List.mem_cons_self) hl2⟩
    · obtain ⟨us, g⟩ := rl2.there p hp
      exact ⟨us, e3.kp p _ (lpi p (List.mem_cons_of_mem _ hp)) g⟩
  have old : ∀ p, (upd (upd H2 dx (.own x0)) x0 (.ins C dx [])) p = none → H2 p = none := fun p hp => by
    cases z : H2 p with
    | none => rfl
    | some o => rw [a3 p o z] at hp; cases hp
  have n3 : ∀ p, (upd (upd H2 dx (.own x0)) x0 (.ins C dx [])) p = none → plusL N (l :: ls) p = false ∧ p ≠ π := fun p hp => by
    have z := old p hp
    exact ⟨G2.ok.hn.new z, hn2.pot.ne z⟩
  have rfN : RvF X.K X.prog X.w π (Hide (plusL N (l :: ls)) H3) fv rr.1 := (RvF.mono (Kp.less fun a z => plus_old z) rf3 : RvF X.K X.prog X.w π (Hide N H3) fv rr.1).noL hid3 c2
  have rows : RvL X.K X.prog X.w π (Hide (plusL N (l :: ls)) H3) (ls3.map V.ref) (rr.2.map D.lst) := (rl3.noL hid3 (fun ds m => c3 ds m)).out (Kp.less fun a z => by
    rcases plusL_iff.mp z with z | z
    · exact plusL_old (plusL_old (plus_old (plus_old z)))
    · exact plusL_mem z) fun p hp => n3 p (hls3 p hp)
  have rv : Rv X.K X.prog X.w π (Hide (plusL N (l :: ls)) H3) (.ref x0) (.ins c (rr.1 ++ [(f, .lst (rr.2.map D.lst))])) :=
    .ins at_ (by rw [hide_in (plusL_no Nx xls)]; exact hx3) (hn2.pot.ne hx) (rfN.add fn3 (.lst (by rw [hide_in (n3 l3 hl3).1]; exact h3) (n3 l3 hl3).2 rows))
  have G4 := G3.set (i := j) rv
  have at4 : ((σ.set i (some (V.ref l))).set j (some (V.ref x0)))[i]? = some (some (V.ref l)) := by rw [List.getElem?_set_ne hij.symm]; exact at1
  have hl4 := e3.kp l _ (lpi l List.mem_cons_self) hl2
  have rl4 : RvLs X.K X.prog X.w π (plusL N (l :: ls)) H3 ls dss := by
    rw [plusL_cons]
    exact rl2.mono (by rw [← plusL_cons]; exact e3.kp.hide) fun p hp us z => e3.kp p _ (lpi p (List.mem_cons_of_mem _ hp)) z
  have G5 := G4.unset (i := k)
  refine ⟨.ref l, at4, l, rfl, ⟨_, SqL.of hl4⟩, ?_⟩
  refine spoil_turns hNk hvr hdr hcr hve hse hpl hbase hsw3 hfew hline G5 (List.getElem?_set_self (by rw [List.length_set, List.length_set]; exact c7)) hl4 ndl rl4 (fun ds m => c5 ds m) fun σ' H' G6 hl6 so => ?_
  refine ⟨.ref l, by rw [so i hik]; exact at4, .inl ⟨rfl, _, SqL.of hl6⟩, hze G6.ok ?_⟩
  intro u H7 e7 r7
  have G7 := G6.ext e7
  refine ⟨l, _, u, rfl, rfl, e7.kp l _ (lpi l List.mem_cons_self) hl6, by rw [List.length_map, rl.length]; exact Nat.lt_of_le_of_lt c4 (by decide), ?_⟩
  exact hrest (G7.up List.mem_cons_self).ok q
end
end Pd
namespace Pd
open PySem L2 PySem.Spec PyProof.Rows
def PmCF (P : Program) (w : World) (K : PySem.W.Frag) (mg : Str → Option Value) (base : Heap) (c f : Str) (k : Nat) (F : List D → T FL) : Prop := ∃ (C fa : Addr) (fd : FuncData) (ps : List Str), Mk K C fa ∧ ClsAt K c C ∧ mg c = some (.ref C) ∧ FnOk P w K mg base CX0 k fa fd ps (spIF K P w c f 2 F) ∧ Binds K fd ps []
section
variable {X : Cx}
theorem b_lendP (i j k : Nat) {kc : Nat} {s1 : Stmt} {rest : List Stmt} {m1 : Rho → T (List (List D))} {mw : Rho → T D} {mr : Rho → T Out} {c f x y r : Str} {we ve ze : Expr} {du dz : D} {F : List D → T FL} {p1 p2 p3 p4 p5 p6 p7 p8 p9 p10 p12 p13 p14 p15 : Pos}
    (hP : PmCF X.prog X.w X.K X.mg X.base c f kc F) (hrm : Room (kc + 1) X.A)
    (hp : PassesOwn (model X.prog X.w) X.A X.env X.xe) (hc : X.calm = true) (nd : X.N.Nodup) (h1 : SndSLL X i s1 m1) (hw : Snd X we mw) (hve : Snd X ve (eC du)) (hze : Snd X ze (eC dz)) (hrest : SndB X rest mr)
    (hij : i ≠ j := by decide) (hik : i ≠ k := by decide) (hjk : j ≠ k := by decide)
    (hNi : X.N[i]? = some x := by rfl) (hNj : X.N[j]? = some y := by rfl) (hNk : X.N[k]? = some r := by rfl) (hvx : Vis X.env.scope x := by first | exact Or.inl rfl | exact Or.inr (Or.inl rfl) | exact Or.inr (Or.inr rfl)) (hvr : Vis X.env.scope r := by first | exact Or.inl rfl | exact Or.inr (Or.inl rfl) | exact Or.inr (Or.inr rfl))
    (hly : Loc X.env.scope y := by first | exact .inl rfl | exact .inr rfl) (hfy : X.fn y = true ∨ X.env.scope.names.lookup y = some .local := by first | exact .inl rfl | exact .inr rfl) (hlr : Loc X.env.scope r := by first | exact .inl rfl | exact .inr rfl) (hfr : X.fn r = true ∨ X.env.scope.names.lookup r = some .local := by first | exact .inl rfl | exact .inr rfl)
    (hdx : (x == ("__debug__" : Str)) = false := by decide) (hcx : (x == ("__classdict__" : Str)) = false := by decide) (hdr : (r == ("__debug__" : Str)) = false := by decide) (hcr : (r == ("__classdict__" : Str)) = false := by decide) (hg : Gl X c := by rfl) (hdc : (c == ("__debug__" : Str)) = false := by decide)
    (hs1 : starEach [we, .Name x p1] X.env = (false, eval we X.env) :: starEach [.Name x p1] X.env := by rfl) (hs2 : starEach [.Name x p1] X.env = (false, eval (.Name x p1) X.env) :: starEach [] X.env := by rfl) (hpl1 : (backTo p3 (starEach [.Name x p1] X.env)).any (·.1) = false := by rfl)
    (hsw2 : swapsWith (.Call (.Name c p2) [we, .Name x p1] [] p3) (some (.Name y p4)) p5.line X.env = pure false := by rfl)
    (hse : starEach [ve] X.env = (false, eval ve X.env) :: starEach [] X.env := by rfl) (hpl : (backTo p8 (starEach [] X.env)).any (·.1) = false := by rfl) (hbase : attributeBase (.Name r p6) "append" X.env (eval (.Name r p6) X.env) = eval (.Name r p6) X.env := by rfl)
    (hsw3 : swapsWith (.Call (.Attribute (.Name r p6) "append" p7) [ve] [] p8) none p9.line X.env = pure false := by rfl)
    (hfew : ((((backTo p8 (starEach [ve] X.env)).all fun x => !x.fst) && (backToKw p8 (keywordEach [] X.env)).all fun x => x.fst.isSome) && decide (([ve].length + ([] : List Keyword).length + if ([] : List Keyword).isEmpty = true then 0 else 1) < 30)) = true := by rfl) (hline : (p7.endLine == p8.line) = true := by rfl)
    (hfi : ∀ z, foldedSetIterable (.Name x p10) X.env z = pure z := by intro _; rfl)
    (hse4 : starEach [ze] X.env = (false, eval ze X.env) :: starEach [] X.env := by rfl) (hpl4 : (backTo p14 (starEach [] X.env)).any (·.1) = false := by rfl) (hbase4 : attributeBase (.Name x p12) "append" X.env (eval (.Name x p12) X.env) = eval (.Name x p12) X.env := by rfl)
    (hsw4 : swapsWith (.Call (.Attribute (.Name x p12) "append" p13) [ze] [] p14) none p15.line X.env = pure false := by rfl)
    (hfew4 : ((((backTo p14 (starEach [ze] X.env)).all fun x => !x.fst) && (backToKw p14 (keywordEach [] X.env)).all fun x => x.fst.isSome) && decide (([ze].length + ([] : List Keyword).length + if ([] : List Keyword).isEmpty = true then 0 else 1) < 30)) = true := by rfl) (hline4 : (p13.endLine == p14.line) = true := by rfl) {pr p16 : Pos} :
    SndB X (s1 :: .Assign [.Name y p4] (.Call (.Name c p2) [we, .Name x p1] [] p3) p5 :: .For (.Name r pr) (.Name x p10) [.Expr (.Call (.Attribute (.Name r p6) "append" p7) [ve] [] p8) p9] [] p16 :: .Expr (.Call (.Attribute (.Name x p12) "append" p13) [ze] [] p14) p15 :: rest) (bSeq (sLend i j k c f F m1 mw) mr) := let ⟨_, _, _, _, M, at_, hm, Gf, hb⟩ := hP; b_lend i j k M Gf hrm hm at_ hb hp hc nd h1 hw hve hze hrest (hij := hij) (hik := hik) (hjk := hjk) (hNi := hNi) (hNj := hNj) (hNk := hNk) (hvx := hvx) (hvr := hvr) (hly := hly) (hfy := hfy) (hlr := hlr) (hfr := hfr) (hdx := hdx) (hcx := hcx) (hdr := hdr) (hcr := hcr) (hg := hg) (hdc := hdc) (hs1 := hs1) (hs2 := hs2) (hpl1 := hpl1) (hsw2 := hsw2) (hse := hse) (hpl := hpl) (hbase := hbase) (hsw3 := hsw3) (hfew := hfew) (hline := hline) (hfi := hfi) (hse4 := hse4) (hpl4 := hpl4) (hbase4 := hbase4) (hsw4 := hsw4) (hfew4 := hfew4) (hline4 := hline4)
end
end Pd
namespace Pd
open PySem L2 PySem.Spec PyProof.Rows
/-- what the written part tells of an exception's class -/
structure ExM (K : PySem.W.Frag) (B newId initId : String) (bmB : List Value) (C : Addr) : Prop where
  fb : ExcBaseFacts B newId initId bmB
  sf : StoreFacts B bmB "object.__setattr__" "object"
  ini : PySem.W.excInitIn K C bmB newId = true
  over : PySem.W.excOver K C bmB = true
  hd : PySem.W.hasDictIn K C = true
  sa : PySem.W.findIn K (.ref C) "__setattr__" = some (some (.builtin "object.__setattr__"))
  exC : PySem.W.subIn K (.ref C) (.type "BaseException") = some true
  tyC : PySem.W.typeIn K (.ref C) = some (.type "type")
  kC : PySem.W.keepIn K (.ref C) = true
theorem taker0 {K : PySem.W.Frag} {C : Addr} {f : Str} (h : PySem.W.findIn K (.ref C) f = some none) : PySem.W.takerIn K C f = some none := by
  unfold PySem.W.takerIn
  rw [h]
  rfl
section
variable {prog : Program} {w : World} {A : Around} {R : Result → Shared → Prop} {hp : Heap} {g : Array GenState} {d : Drawn} {t : Nat} {os : OsState} {K : PySem.W.Frag} {B newId initId : String} {bmB : List Value} {C x : Addr} {f : Str} {tk : Tok} {v : Value} {fv : Array Value}
open Builtin Builtin.ObjectAttr in
/-- the first attribute of an exception: its dict is new -/
theorem exm_first (T : ExM K B newId initId bmB C) (X : K.In hp) (hx : hp.get? x = some { cls := .ref C, data := .fields fv }) (hno : PySem.W.findIn K (.ref C) f = some none)
    (hq : ∀ h2 tk2 dx, (∀ b o, b ≠ x → hp.get? b = some o → h2.get? b = some o) → hp.objs.size ≤ dx → dx ≠ x → h2.get? x = some { cls := .ref C, dict := some dx, data := .fields fv } →
      h2.Ns1 dx (fun y => if y = f then some v else none) → R (.ok (.ret .none)) ⟨h2, g, d, tk2, os⟩) :
    codeAny (model prog w) A (.call (.builtin "object.__setattr__") ⟨[.ref x, .str f tk, v], []⟩) R ⟨hp, g, d, t, os⟩ := by
  have J : PySem.W.InstAt hp x { cls := .ref C, data := .fields fv } C none := ⟨hx, rfl, rfl, trivial⟩
  have xs : x ≠ hp.objs.size := Nat.ne_of_lt (Heap.lt_size hx)
  refine PySem.W.osa_openX (r := none) (s := ⟨hp, g, d, t, os⟩) T.sf X J T.over (taker0 hno) fun b => ?_
  obtain ⟨cd, hcd, hh⟩ := PySem.W.any_some T.hd
  have cls1 : PySem.W.Looks (model prog w) hp (classData C) cd := PySem.W.looks_clsIn X hcd
  obtain ⟨nm, bs, mro, ns, qn, hd, sn, sb, ab, col, del⟩ := cd
  have hh : hd = true := hh
  subst hh
  show wpAny _ _ (storeInOwnDict _ _ _ _ _ b) _ _ _
  unfold storeInOwnDict ownDictForStores
  repeat (first | with_reducible refine PySem.HandSPX.store_in_new ?_ ?_ | with_reducible refine wpAny_loadPart_at hx ?_ | with_reducible refine cls1.at ?_ | wp_step)
  · exact ⟨_, #[], _, (Heap.get?_update_ne _ _ _ _ xs.symm).trans (Heap.get?_push_at rfl rfl), rfl, fun e he => absurd he (by simp), fun _ => rfl⟩
  · intro h2 tk2 hn hs
    have hx1 : (hp.push { cls := .type "dict", data := .dict #[] }).get? x = some { cls := .ref C, data := .fields fv } := Heap.get?_push_of_some _ hx
    refine hq h2 tk2 hp.objs.size (fun b o hb ho => ?_) (Nat.le_refl _) xs.symm ?_ hn
    · exact (hs.2 b (Nat.ne_of_lt (Heap.lt_size ho))).trans ((Heap.get?_update_ne _ _ _ _ hb).trans (Heap.get?_push_of_some _ ho))
    · exact (hs.2 x xs).trans (Heap.get?_update_self _ hx1 rfl)
open Builtin Builtin.ObjectAttr in
/-- a further attribute -/
theorem exm_more {dx : Addr} {m0 : Str → Option Value} {nl : List Str} (T : ExM K B newId initId bmB C) (X : K.In hp) (hx : hp.get? x = some { cls := .ref C, dict := some dx, data := .fields fv }) (hns : hp.Ns1 dx m0) (hw : Within m0 nl) (hz : nl.length ≤ 1000) (hno : PySem.W.findIn K (.ref C) f = some none)
    (hq : ∀ h2 tk2, (∀ b o, b ≠ dx → hp.get? b = some o → h2.get? b = some o) → h2.Ns1 dx (fun y => if y = f then some v else m0 y) → R (.ok (.ret .none)) ⟨h2, g, d, tk2, os⟩) :
    codeAny (model prog w) A (.call (.builtin "object.__setattr__") ⟨[.ref x, .str f tk, v], []⟩) R ⟨hp, g, d, t, os⟩ := by
  obtain ⟨oD, esD, epD, hoD, hdD, _⟩ := hns.count hw
  have J : PySem.W.InstAt hp x { cls := .ref C, dict := some dx, data := .fields fv } C (some oD) := ⟨hx, rfl, rfl, hoD⟩
  refine PySem.W.osa_openX (r := none) (s := ⟨hp, g, d, t, os⟩) T.sf X J T.over (taker0 hno) fun b => ?_
  obtain ⟨cd, hcd, hh⟩ := PySem.W.any_some T.hd
  have cls1 : PySem.W.Looks (model prog w) hp (classData C) cd := PySem.W.looks_clsIn X hcd
  obtain ⟨nm, bs, mro, ns, qn, hd, sn, sb, ab, col, del⟩ := cd
  have hh : hd = true := hh
  subst hh
  show wpAny _ _ (storeInOwnDict _ _ _ _ _ b) _ _ _
  unfold storeInOwnDict ownDictForStores
  repeat (first | with_reducible refine PySem.OEX.store_in_old hns hw hz ?_ | with_reducible refine wpAny_loadPart_at hx ?_ | with_reducible refine cls1.at ?_ | wp_step)
  intro h2 tk2 hn hs
  exact hq h2 tk2 (fun b o hb ho => (hs.2 b hb).trans ho) hn
end
section
variable {X : Cx} {pins : List (Addr × Obj)} {σ : L2.St} {H : Hp} {s : Shared} {a C dx : Addr} {f : Str} {y : V} {u : Value} {fs : List (Str × V)} {Q : Unit → Shared → Prop} {E : Value → Shared → Prop} {A : Around} {B newId initId : String} {bmB : List Value}
theorem ex_new (T : ExM X.K B newId initId bmB C) (I : Inv X pins σ H s) (e : H a = some (exo a C none)) (hno : PySem.W.findIn X.K (.ref C) f = some none) (ry : L2.RelV y u)
    (h : ∀ dx s2, H dx = none → dx ≠ a → Inv X pins σ (upd (upd H dx (exd dx [(f, y)])) a (exo a C (some dx))) s2 → Q () s2) : wpAny (model X.prog X.w) A (setAttr (.ref a) f u) Q E s := by
  obtain ⟨t1, ho⟩ := exo_at I.hok e
  obtain ⟨hp, g, d, t, os⟩ := s
  refine PySem.W.set_plain I.kIn (od := none) (ox := { cls := .ref C, dict := none, data := .fields #[.ref t1, .none, .none, .none, .bool false, .none] }) ⟨ho, rfl, rfl, trivial⟩ T.sa ?_
  refine exm_first T I.kIn ho hno fun h2 tk2 dx k dn dne hx hn => ?_
  have n1 : H dx = none := I.hok.fresh dn
  have far : ∀ {b : Addr} {o : Obj}, hp.get? b = some o → b ≠ dx := fun {b o} q => Nat.ne_of_lt (Nat.lt_of_lt_of_le (Heap.lt_size q) dn)
  have off : ∀ {b : Addr}, H b = none → b ≠ a := fun {b} n z => by rw [z, e] at n; cases n
  have old : ∀ {b : Addr} {o : HO}, H b = some o → exo a C none ≠ o → (upd (upd H dx (exd dx [(f, y)])) a (exo a C (some dx))) b = H b := fun {b o} q ne => by rw [upd_ne (at_ne e q ne), upd_ne (ne_of_none q n1)]
  have U : Un X.fs [] H (upd (upd H dx (exd dx [(f, y)])) a (exo a C (some dx))) hp h2 :=
    ⟨fun b o q n _ _ => k b o (off n) q, fun b o q n _ _ => ⟨o.slots, k b o (off n) q⟩, fun b o q n _ => by rw [upd_ne (off n), upd_ne (far q)]; exact n, fun b o q _ => by
      rcases Classical.em (b = a) with z | z
      · exact ⟨_, z ▸ hx⟩
      · exact ⟨o, k b o z q⟩, fun b xs q => by rw [old q exo_tup]; exact q, fun b o v q => by rw [old q exo_frz]; exact q, fun b ps q => ⟨#[], by rw [old q exo_tbl, q]; simp⟩⟩
  refine h dx _ n1 dne (I.un (t' := tk2) U fun b o q => ?_)
  rcases Classical.em (b = a) with z | z
  · subst z
    rw [upd_same] at q
    cases q
    exact exo_ok hx
  rw [upd_ne z] at q
  rcases Classical.em (b = dx) with z2 | z2
  · subst z2
    rw [upd_same] at q
    cases q
    exact exd_ok hn (relO_put (fs := []) ry fun g => True.intro)
  rw [upd_ne z2] at q
  refine (I.hok b o q).stay (fun c v hc r => k c v ?_ r) (fun c hc => by rw [old hc exo_own]; exact hc) (fun c xs hc => by rw [old hc exo_tup]; exact hc)
  rcases hc with hc | hc
  · exact fun w => z (hc.symm.trans w)
  · exact at_ne e hc exo_own
theorem ex_old (T : ExM X.K B newId initId bmB C) (I : Inv X pins σ H s) (e : H a = some (exo a C (some dx))) (ed : H dx = some (exd dx fs)) (hl : fs.length ≤ 900) (hno : PySem.W.findIn X.K (.ref C) f = some none) (ry : L2.RelV y u)
    (h : ∀ s2, Inv X pins σ (upd H dx (exd dx ((f, y) :: fs))) s2 → Q () s2) : wpAny (model X.prog X.w) A (setAttr (.ref a) f u) Q E s := by
  obtain ⟨t1, ho⟩ := exo_at I.hok e
  obtain ⟨mA, hns, rel⟩ := exd_at I.hok ed
  have hw := within_of rel
  obtain ⟨hp, g, d, t, os⟩ := s
  obtain ⟨oD, _, _, hoD, _, _⟩ := hns.count hw
  refine PySem.W.set_plain I.kIn (od := some oD) (ox := { cls := .ref C, dict := some dx, data := .fields #[.ref t1, .none, .none, .none, .bool false, .none] }) ⟨ho, rfl, rfl, hoD⟩ T.sa ?_
  refine exm_more T I.kIn ho hns hw (by rw [List.length_map]; omega) hno fun h2 tk2 k hn => ?_
  have there : ∃ o, h2.get? dx = some o := by obtain ⟨o, _, _, r, _⟩ := hn; exact ⟨o, r⟩
  exact h _ (I.write (t' := tk2) (x := dx) (e := dx) (o := exd dx ((f, y) :: fs)) (by rw [ed]; exact True.intro) (.inl rfl) k there (exd_ok hn (relO_put ry rel)))
end
/-- self.f = e in an exception's `__init__` -/
def tEx (K : PySem.W.Frag) (f : Str) (to te : TE) : TS := fun D σ H => te σ H fun y H1 => to σ H1 fun x H2 => ∃ (a C : Addr) (B newId initId : String) (bmB : List Value), x = .ref a ∧ ExM K B newId initId bmB C ∧ PySem.W.findIn K (.ref C) f = some none ∧
  ((H2 a = some (exo a C none) ∧ ∀ dx, H2 dx = none → dx ≠ a → D.nx σ (upd (upd H2 dx (exd dx [(f, y)])) a (exo a C (some dx)))) ∨
    ∃ (dx : Addr) (fs : List (Str × V)), H2 a = some (exo a C (some dx)) ∧ H2 dx = some (exd dx fs) ∧ fs.length ≤ 900 ∧ D.nx σ (upd H2 dx (exd dx ((f, y) :: fs))))
theorem ps_ex {X : Cx} {o e : Expr} {to te : TE} {f : Str} {p2 pos : Pos} (ho : PE X o to) (he : PE X e te) (hs : swapsWith e (some (.Attribute o f p2)) pos.line X.env = pure false := by rfl) : PS X (.Assign [.Attribute o f p2] e pos) (tEx X.K f to te) := by
  refine ⟨fun pins s σ H D I h => plainObj_wpAny_Assign_Attribute (thn (he.run pins s σ H _ I h) fun v s1 ⟨y, H1, I1, r1, q1⟩ => thn (ho.run pins s1 σ H1 _ I1 q1) fun u s2 ⟨x, H2, I2, r2, a, C, B, newId, initId, bmB, ex, T, hno, q⟩ => ?_) hs⟩
  subst ex
  obtain rfl : u = Value.ref a := r2
  rcases q with ⟨ea, q⟩ | ⟨dx, fs, ea, ed, hl, q⟩
  · exact ex_new T I2 ea hno r1 fun dx s3 n ne J => ⟨σ, _, J, q dx n ne⟩
  · exact ex_old T I2 ea ed hl hno r1 fun s3 J => ⟨σ, _, J, q⟩
end Pd
namespace Pd
open PySem L2 PySem.Spec PyProof.Rows
def flds (fl : List Str) (vs : List V) : List (Str × V) := (fl.zip vs).reverse
/-- `__init__`'s promise: the attributes are the arguments, in turn -/
def spE (C : Addr) (fl : List Str) : Sp := fun vs H Q _ => ∃ (a : Addr) (args : List V), vs = .ref a :: args ∧ args.length = fl.length ∧ H a = some (exo a C none) ∧ (fl = [] → Q .non H) ∧
  (fl ≠ [] → ∀ (d : Addr) (H2 : Hp), H d = none → d ≠ a → H2 a = some (exo a C (some d)) → H2 d = some (exd d (flds fl args)) → (∀ b, b ≠ a → b ≠ d → H2 b = H b) → Q .non H2)
section
variable {X : Cx} {pins : List (Addr × Obj)} {σ : L2.St}
/-- the end of C(): the exception has no dict -/
theorem mk_bare {H1 H2 : Hp} {Q : XK} {hp hp2 h2 : Heap} {g1 g2 : Array GenState} {d1 d2 : Drawn} {t1 t2 : Nat} {os1 os2 : OsState} {a C : Addr} (T : Raises X (.ref C)) (I1 : Inv X pins σ H1 ⟨hp, g1, d1, t1, os1⟩) (ha : hp.objs.size ≤ a) (k : ∀ b o, hp.get? b = some o → hp2.get? b = some o)
    (un : Un (frs X.stack) [] (upd H1 a (exo a C none)) H2 hp2 h2) (hok : HOk X.prog X.w H2 h2) (ho : os2 = os1) (hb : AllBare g2) (ea : H2 a = some (exo a C none)) (q : Q (.ref C) none (del H2 a)) : MkP X pins σ Q (.ref a) ⟨h2, g2, d2, t2, os2⟩ := by
  obtain ⟨t0, hoe⟩ := exo_at hok ea
  have n1 : H1 a = none := I1.hok.fresh ha
  obtain ⟨G, gy, gn⟩ := restrict h2 fun b => decide (b ≠ a)
  have gk : ∀ {b}, b ≠ a → G.get? b = h2.get? b := fun {b} z => gy b (decide_eq_true z)
  have ge : G.get? a = none := gn a (by simp)
  have lo : ∀ {b : Addr} {o : Obj}, hp.get? b = some o → b ≠ a := fun {b o} z => Nat.ne_of_lt (Nat.lt_of_lt_of_le (Heap.lt_size z) ha)
  have up : ∀ {b : Addr}, b ≠ a → (upd H1 a (exo a C none)) b = H1 b := fun {b} z => upd_ne z
  have nb : ∀ {b : Addr} {o : HO}, H2 b = some o → exo a C none ≠ o → b ≠ a := fun {b o} z ne => at_ne ea z ne
  have U : Un (frs X.stack) [] H1 (del H2 a) hp G := ⟨fun b o z n hf hx => (gk (lo z)).trans (un.keep b o (k b o z) ((up (lo z)).trans n) hf hx), fun b o z n hf hx => by
      obtain ⟨sl, y⟩ := un.slot b o (k b o z) ((up (lo z)).trans n) hf hx
      exact ⟨sl, (gk (lo z)).trans y⟩, fun b o z n hx => (del_ne (lo z)).trans (un.free b o (k b o z) ((up (lo z)).trans n) hx), fun b o z hx => by
      obtain ⟨o2, y⟩ := un.there b o (k b o z) hx
      exact ⟨o2, (gk (lo z)).trans y⟩, fun b xs z => (del_ne (ne_of_none z n1)).trans (un.tups b xs ((up (ne_of_none z n1)).trans z)), fun b o v z => (del_ne (ne_of_none z n1)).trans (un.frzs b o v ((up (ne_of_none z n1)).trans z)), fun b ps z => by
      obtain ⟨m, y⟩ := un.tbls b ps ((up (ne_of_none z n1)).trans z)
      exact ⟨m, (del_ne (ne_of_none z n1)).trans y⟩⟩
  have ok3 : HOk X.prog X.w (del H2 a) G := fun b o z => by
    have ba : b ≠ a := fun e => by rw [e, del_same] at z; cases z
    rw [del_ne ba] at z
    refine (hok b o z).stay (fun c v hc y => (gk ?_).trans y) (fun c hc => (del_ne (nb hc exo_own)).trans hc) (fun c xs hc => (del_ne (nb hc exo_tup)).trans hc)
    rcases hc with hc | hc
    · rw [hc]; exact ba
    · exact nb hc exo_own
  have J : Inv X pins σ (del H2 a) ⟨G, g2, d2, t2, os2⟩ := I1.call' (ch := []) ho U ok3 hb fun b z => absurd z (by simp)
  refine ⟨a, _, _, ⟨G, g2, d2, t2, os2⟩, _, .ref C, none, rfl, J, fun b o z => ?_, ge, hoe, ⟨rfl, rfl⟩, rfl, rfl, del_same, rfl, hb, T, q⟩
  have ba : b ≠ a := fun e => by
    have z2 : G.get? b = some o := z
    rw [e, ge] at z2
    cases z2
  exact (gk ba).symm.trans z
end
/-- C(..): what is raised -/
def tEm (C : Addr) (fl : List Str) (ta : TA) : L2.St → Hp → XK → Prop := fun σ H Q => ta σ H fun vs H1 => vs.length = fl.length ∧ vs.length ≤ 1000 ∧ (fl = [] → Q (.ref C) none H1) ∧ (fl ≠ [] → ∀ d, H1 d = none → Q (.ref C) (some d) (upd H1 d (.xd (flds fl vs))))
section
variable {X : Cx} {e : Expr} {es : List Expr} {ta : TA} {p pos : Pos} {x : Str} {C fI : Addr} {k : Nat} {fd : FuncData} {ps : List Str} {fl : List Str} {B newId initId : String} {bmB : List Value}
theorem ex_call {pins : List (Addr × Obj)} {H1 : Hp} {s1 : Shared} {σ : L2.St} {Q : XK} {us : List Value} {vs : List V} (T : ExM X.K B newId initId bmB C) (iC : PySem.W.findIn X.K (.ref C) "__init__" = some (some (.ref fI))) (tI : PySem.W.typeIn X.K (.ref fI) = some (.type "function"))
    (F1 : FnOk X.prog X.w X.K X.mg X.base CX0 k fI fd ps (spE C fl)) (hr : Room (k + 1) X.A) (hb : Binds X.K fd ps []) (I1 : Inv X pins σ H1 s1) (r1 : Vals vs us) (hl : vs.length = fl.length) (hz : vs.length ≤ 1000) (q0 : fl = [] → Q (.ref C) none H1)
    (q1 : fl ≠ [] → ∀ d, H1 d = none → Q (.ref C) (some d) (upd H1 d (.xd (flds fl vs)))) : wpAny (model X.prog X.w) X.A (call (.ref C) us) (MkP X pins σ Q) X.xe s1 := by
  obtain ⟨hp, g, dr, tk, os⟩ := s1
  obtain ⟨nm, N, qn, bs, bm, hdct, sn, sub, ab, col, dd, k0, k1, k2, k3, k5, hC, hT⟩ := PySem.W.excInit_of I1.kIn T.ini
  have sz : hp.objs.size ≤ hp.objs.size + 1 := Nat.le_succ _
  have n1 : H1 (hp.objs.size + 1) = none := I1.hok.fresh sz
  have kk : ∀ b o, hp.get? b = some o → ((hp.push (PySem.W.kdv_tup us)).push (PySem.HandSPX.excO C hp.objs.size)).get? b = some o := fun b o z => Heap.get?_push_of_some _ (Heap.get?_push_of_some _ z)
  have at1 : ((hp.push (PySem.W.kdv_tup us)).push (PySem.HandSPX.excO C hp.objs.size)).get? (hp.objs.size + 1) = some (PySem.HandSPX.excO C hp.objs.size) := by heap_get
  have I2 := I1.laid (t' := tk) (a := hp.objs.size + 1) (o := exo (hp.objs.size + 1) C none) (h' := (hp.push (PySem.W.kdv_tup us)).push (PySem.HandSPX.excO C hp.objs.size)) kk sz (exo_ok at1)
  have r2 : Vals (V.ref (hp.objs.size + 1) :: vs) (Value.ref (hp.objs.size + 1) :: us) := .cons rfl r1
  have R2 : Raises X (.ref C) := raises_own T.exC T.tyC
  have hsp : spE C fl (.ref (hp.objs.size + 1) :: vs) (upd H1 (hp.objs.size + 1) (exo (hp.objs.size + 1) C none)) (fun v H2 => v = .non ∧ ((fl = [] ∧ H2 = upd H1 (hp.objs.size + 1) (exo (hp.objs.size + 1) C none)) ∨ ∃ d : Addr, H1 d = none ∧ d ≠ hp.objs.size + 1 ∧ H2 (hp.objs.size + 1) = some (exo (hp.objs.size + 1) C (some d)) ∧
      H2 d = some (exd d (flds fl vs)) ∧ (∀ b, b ≠ hp.objs.size + 1 → b ≠ d → H2 b = H1 b) ∧ fl ≠ [])) E0 :=
    ⟨_, vs, rfl, hl, upd_same, fun z => ⟨rfl, .inl ⟨z, rfl⟩⟩, fun z d H2 y1 y2 y3 y4 y5 => ⟨rfl, .inr ⟨d, by rw [upd_ne y2] at y1; exact y1, y2, y3, y4, fun b b1 b2 => (y5 b b1 b2).trans (upd_ne b1), z⟩⟩⟩
  have hus : us.length ≤ sizeLine := by rw [← Paired.length r1, sizeLine_eq]; omega
  have lps : (Value.ref (hp.objs.size + 1) :: us ++ []).length = ps.length := by
    have z := F1.len _ _ _ _ hsp
    rw [List.append_nil, ← z]
    exact (Paired.length r2).symm
  have bnd := hb _ (Value.ref (hp.objs.size + 1) :: us) I2.kIn lps
  rw [List.append_nil] at bnd
  refine wpAny_call (PySem.HandSPX.call_own T.fb hT hC (PySem.W.looks_findIn I1.kIn iC) (fun self => PySem.W.bind_fn I1.kIn self tI) hus (codeAny_mono (F1.run _ X.stack _ _ ⟨Value.ref (hp.objs.size + 1) :: us, []⟩ _ _ _ E0 (hr.make C us []) (I2.env0.make C us []) bnd r2 hsp) fun r s2 y => ?_))
  cases r with
  | error er => exact y.elim
  | ok fl2 =>
    cases fl2 with
    | next => exact False.elim y
    | brk => exact False.elim y
    | cont => exact False.elim y
    | ret u =>
      obtain ⟨v, H2, os2, bare2, un2, ok2, rv, ev, y⟩ := y
      subst ev
      obtain ⟨h2, g2, d2, t2, os3⟩ := s2
      refine ⟨rv, ?_⟩
      rcases y with ⟨z, rfl⟩ | ⟨d, nd, dne, ea, ed, keep, z⟩
      · refine mk_bare R2 I1 sz kk un2 ok2 os2 bare2 upd_same ?_
        have e : del (upd H1 (hp.objs.size + 1) (exo (hp.objs.size + 1) C none)) (hp.objs.size + 1) = H1 := funext fun b => by
          by_cases c : b = hp.objs.size + 1
          · rw [c, del_same, n1]
          · rw [del_ne c, upd_ne c]
        rw [e]
        exact q0 z
      · refine mk_end R2 I1 sz kk un2 ok2 os2 bare2 ea ed nd ?_
        have e : upd (del H2 (hp.objs.size + 1)) d (.xd (flds fl vs)) = upd H1 d (.xd (flds fl vs)) := funext fun b => by
          by_cases c : b = d
          · rw [c, upd_same, upd_same]
          rw [upd_ne c, upd_ne c]
          by_cases c2 : b = hp.objs.size + 1
          · rw [c2, del_same, n1]
          · rw [del_ne c2]
            exact keep b c2 c
        rw [e]
        exact q1 z d nd
theorem pmk_ex (T : ExM X.K B newId initId bmB C) (iC : PySem.W.findIn X.K (.ref C) "__init__" = some (some (.ref fI))) (tI : PySem.W.typeIn X.K (.ref fI) = some (.type "function")) (F1 : FnOk X.prog X.w X.K X.mg X.base CX0 k fI fd ps (spE C fl)) (hr : Room (k + 1) X.A) (hb : Binds X.K fd ps [])
    (hm : X.mg x = some (.ref C)) (ha : PA X (e :: es) ta) (hg : Gl X x := by rfl) (hdb : (x == ("__debug__" : Str)) = false := by decide) (he : starEach (e :: es) X.env = (false, eval e X.env) :: starEach es X.env := by rfl) (hpl : (backTo pos (starEach es X.env)).any (·.1) = false := by rfl) :
    PMk X (.Call (.Name x p) (e :: es) [] pos) (tEm C fl ta) := fun pins s σ H Q I h => by
  refine wpAny_Call_Name_kw (ld_glob I hg hm ?_ hdb)
  exact PySem.W.callWith_K (h₀ := X.base) I.ok.mod.kin T.kC (thn (ha.run pos pins s σ H _ I h) fun us s1 ⟨vs, H1, I1, r1, hl, hz, q0, q1⟩ => ⟨I1.kIn, ex_call T iC tI F1 hr hb I1 r1 hl hz q0 q1⟩) he hpl
end
end Pd
namespace Pd
open PySem L2 PySem.Spec PyProof.Rows
inductive Res (α : Type) where
  | ok (a : α) | ex (c : Str) (fs : List (Str × D))
def ResP {α : Type} (P : α → Prop) (E : Str → List (Str × D) → Prop) : Res α → Prop
  | .ok a => P a
  | .ex c fs => E c fs
theorem ResP.imp {α : Type} {P P2 : α → Prop} {E E2 : Str → List (Str × D) → Prop} (h1 : ∀ a, P a → P2 a) (h2 : ∀ c fs, E c fs → E2 c fs) : ∀ r, ResP P E r → ResP P2 E2 r
  | .ok a, h => h1 a h
  | .ex c fs, h => h2 c fs h
def T.ok {α : Type} (t : T α) : T (Res α) := t.bind fun a => .ret (.ok a)
def T.bindX {α β : Type} (t : T (Res α)) (f : α → T (Res β)) : T (Res β) := t.bind fun r => match r with
  | .ok a => f a
  | .ex c fs => .ret (.ex c fs)
theorem T.all_okP {α : Type} {P : α → Prop} {E : Str → List (Str × D) → Prop} {t : T α} (h : (T.ok t).all (ResP P E)) : t.all P := T.all_bind.mp h
theorem T.all_bindX {α β : Type} {P : β → Prop} {E : Str → List (Str × D) → Prop} {t : T (Res α)} {f : α → T (Res β)} (h : (t.bindX f).all (ResP P E)) : t.all (ResP (fun a => (f a).all (ResP P E)) E) :=
  T.all_mono (fun r hr => by cases r <;> exact hr) (T.all_bind.mp h)
/-- an exception's dict, or none -/
def ExD (K : PySem.W.Frag) (P : Program) (w : World) (π : Addr) (N : Addr → Bool) (H : Hp) (d : Option Addr) (fs : List (Str × D)) : Prop :=
  (d = none ∧ fs = []) ∨ ∃ (dd : Addr) (vs : List (Str × V)), d = some dd ∧ dd ≠ π ∧ N dd = false ∧ H dd = some (.xd vs) ∧ RvF K P w π (Hide N H) vs fs
def XOk (K : PySem.W.Frag) (P : Program) (w : World) (π : Addr) (N : Addr → Bool) (H : Hp) (E : XK) : Str → List (Str × D) → Prop := fun c fs => ∀ (C : Addr) (d : Option Addr) (H2 : Hp), Ex π H H2 → ClsAt K c C → ExD K P w π N H2 d fs → E (.ref C) d H2
section
variable {K : PySem.W.Frag} {P : Program} {w : World} {π : Addr} {N N0 : Addr → Bool} {H H0 H1 : Hp} {d : Option Addr} {fs : List (Str × D)} {E : XK} {c : Str}
theorem ExD.less (sub : ∀ a, N0 a = true → N a = true) (h : ExD K P w π N H d fs) : ExD K P w π N0 H d fs := by
  rcases h with h | ⟨dd, vs, h1, h2, h3, h4, h5⟩
  · exact .inl h
  · refine .inr ⟨dd, vs, h1, h2, ?_, h4, h5.mono (Kp.less sub)⟩
    cases q : N0 dd with
    | false => rfl
    | true => rw [sub dd q] at h3; cases h3
theorem ExD.ext (e : Ex π H H1) (h : ExD K P w π N H d fs) : ExD K P w π N H1 d fs := by
  rcases h with h | ⟨dd, vs, h1, h2, h3, h4, h5⟩
  · exact .inl h
  · exact .inr ⟨dd, vs, h1, h2, h3, e.kp _ _ h2 h4, h5.mono e.kp.hide⟩
theorem XOk.up (e : Ex π H H1) (h : XOk K P w π N H E c fs) : XOk K P w π N H1 E c fs := fun C d H2 e2 at_ r => h C d H2 (e.trans e2) at_ r
theorem XOk.at {σ : L2.St} {ρ : Rho} (I : EnvOk K P w π N0 H0 N H σ ρ) (h : XOk K P w π N0 H0 E c fs) : XOk K P w π N H E c fs := fun C d H2 e2 at_ r => h C d H2 ⟨I.ex.trans e2.kp, e2.pot⟩ at_ (r.less I.sub)
end
/-- what is raised, wished for at the slots -/
abbrev wat (W : WX) (σ : L2.St) : XK := fun cls d H => W cls d σ H
abbrev wcon (E : XK) : WX := fun cls d _ H => E cls d H
section
variable (X : Cx)
def SndX (W : WX) (e : Expr) (m : Rho → T (Res D)) : Prop := ∀ ⦃π : Addr⦄ ⦃N0 : Addr → Bool⦄ ⦃H0 : Hp⦄ ⦃N : Addr → Bool⦄ ⦃H : Hp⦄ ⦃σ : L2.St⦄ ⦃ρ : Rho⦄ ⦃Q : VK⦄, EnvOk X.K X.prog X.w π N0 H0 N H σ ρ →
  (m ρ).all (ResP (Kd X π N H Q) (XOk X.K X.prog X.w π N H (wat W σ))) → wpE X e σ H Q
def SndTX (W : WX) (e : Expr) (m : Rho → T (Res Bool)) : Prop := ∀ ⦃π : Addr⦄ ⦃N0 : Addr → Bool⦄ ⦃H0 : Hp⦄ ⦃N : Addr → Bool⦄ ⦃H : Hp⦄ ⦃σ : L2.St⦄ ⦃ρ : Rho⦄ ⦃Q : Bool → Hp → Prop⦄, EnvOk X.K X.prog X.w π N0 H0 N H σ ρ →
  (m ρ).all (ResP (fun b => ∀ H2, Ex π H H2 → Q b H2) (XOk X.K X.prog X.w π N H (wat W σ))) → wpT X e σ H Q
def SndSX (E : XK) (st : Stmt) (m : Rho → T (Res Out)) : Prop := ∀ ⦃π : Addr⦄ ⦃N0 : Addr → Bool⦄ ⦃H0 : Hp⦄ ⦃N : Addr → Bool⦄ ⦃H : Hp⦄ ⦃σ : L2.St⦄ ⦃ρ : Rho⦄ ⦃De : Ends⦄, EnvOk X.K X.prog X.w π N0 H0 N H σ ρ →
  (m ρ).all (ResP (OutOk X π N0 H0 De) (XOk X.K X.prog X.w π N0 H0 E)) → wpS X st De σ H
def SndBX (E : XK) (sts : List Stmt) (m : Rho → T (Res Out)) : Prop := ∀ ⦃π : Addr⦄ ⦃N0 : Addr → Bool⦄ ⦃H0 : Hp⦄ ⦃N : Addr → Bool⦄ ⦃H : Hp⦄ ⦃σ : L2.St⦄ ⦃ρ : Rho⦄ ⦃De : Ends⦄, EnvOk X.K X.prog X.w π N0 H0 N H σ ρ →
  (m ρ).all (ResP (OutOk X π N0 H0 De) (XOk X.K X.prog X.w π N0 H0 E)) → wpSs X sts De σ H
end
def bX (m : Rho → T Out) : Rho → T (Res Out) := fun ρ => T.ok (m ρ)
def tX (m : Rho → T Bool) : Rho → T (Res Bool) := fun ρ => T.ok (m ρ)
def sExprX (m : Rho → T (Res D)) : Rho → T (Res Out) := fun ρ => (m ρ).bindX fun _ => .ret (.ok (.nx ρ))
def sIfX (mt : Rho → T (Res Bool)) (m1 m2 : Rho → T (Res Out)) : Rho → T (Res Out) := fun ρ => (mt ρ).bindX fun b => cond b (m1 ρ) (m2 ρ)
def fldD2 (fl : List Str) (ds : List D) : List (Str × D) := (fl.zip ds).reverse
def sRaise (c : Str) (fl : List Str) (ms : Rho → T (List D)) : Rho → T (Res Out) := fun ρ => (ms ρ).bind fun ds => cond (ds.length == fl.length && decide (ds.length ≤ 1000)) (.ret (.ex c (fldD2 fl ds))) .fail
def eCallX (n : Nat) (F : List D → T (Res D)) (ms : Rho → T (List D)) : Rho → T (Res D) := fun ρ => (ms ρ).bind fun ds => cond (ds.length == n) (F ds) .fail
/-- a def's promise that it gives this or raises that -/
def spX (K : PySem.W.Frag) (P : Program) (w : World) (n : Nat) (F : List D → T (Res D)) : Sp := fun vs H Q E => ∃ (π : Addr) (N : Addr → Bool) (ds : List D), HN π N H ∧ RvL K P w π (Hide N H) vs ds ∧ vs.length = n ∧
  (F ds).all (ResP (fun d => ∀ v H2, Ex π H H2 → Rv K P w π (Hide N H2) v d → Q v H2) (XOk K P w π N H E))
section
variable {X : Cx} {W : WX} {E : XK} {e a b : Expr} {es : List Expr} {st : Stmt} {sts rest : List Stmt} {m : Rho → T D} {mx : Rho → T (Res D)} {mt : Rho → T Bool} {tx ty : Rho → T (Res Bool)} {m1 m2 : Rho → T (Res Out)} {ms : Rho → T (List D)} {pos p : Pos} {k n : Nat} {f C fI : Addr} {fd : FuncData} {ps ks : List Str} {x c : Str} {fl : List Str}
theorem stx_of (h : SndT X e mt) : SndTX X W e (tX mt) := fun {π N0 H0 N H σ ρ Q} I q => h I (T.all_okP q)
theorem bx_of {mo : Rho → T Out} (h : SndB X sts mo) : SndBX X E sts (bX mo) := fun {π N0 H0 N H σ ρ De} I q => h I (T.all_okP q)
theorem bx_one (h : SndSX X E st m1) : SndBX X E [st] m1 := fun {π N0 H0 N H σ ρ De} I q => ⟨_, pss_one ps_wp, h I q⟩
theorem ssx_if {xs ys : List Stmt} (hc : SndTX X (wcon E) a tx) (ha : SndBX X E xs m1) (hb : SndBX X E ys m2) : SndSX X E (.If a xs ys pos) (sIfX tx m1 m2) := fun {π N0 H0 N H σ ρ De} I h => ⟨_, ps_if pt_wp pss_wp pss_wp, hc I (T.all_mono (ResP.imp (fun k hk H2 e2 => by
  cases k with
  | true => exact iteT (ha (I.ext e2) hk)
  | false => exact iteF (hb (I.ext e2) hk)) fun _ _ z => z.at I) (T.all_bindX h))⟩
theorem RvF.zip {K : PySem.W.Frag} {P : Program} {w : World} {π : Addr} {H : Hp} : ∀ (fl : List Str) {ds : List D} {vs : List V}, RvL K P w π H vs ds → RvF K P w π H (fl.zip vs) (fl.zip ds)
  | [], _, _, _ => .nil
  | _ :: _, _, _, .nil => .nil
  | _ :: fl, _, _, .cons r t => .cons r (RvF.zip fl t)
theorem RvF.app {K : PySem.W.Frag} {P : Program} {w : World} {π : Addr} {H : Hp} : ∀ {ds es : List (Str × D)} {vs us : List (Str × V)}, RvF K P w π H vs ds → RvF K P w π H us es → RvF K P w π H (vs ++ us) (ds ++ es)
  | _, _, _, _, .nil, s => s
  | _, _, _, _, .cons r t, s => .cons r (RvF.app t s)
theorem RvF.rev {K : PySem.W.Frag} {P : Program} {w : World} {π : Addr} {H : Hp} : ∀ {ds : List (Str × D)} {vs : List (Str × V)}, RvF K P w π H vs ds → RvF K P w π H vs.reverse ds.reverse
  | _, _, .nil => .nil
  | _, _, .cons (x := x) (v := v) (d := d) r t => by
    rw [List.reverse_cons, List.reverse_cons]
    exact t.rev.app (.cons r .nil)
theorem raise_post {π : Addr} {N0 N : Addr → Bool} {H0 H H1 : Hp} {σ : L2.St} {ρ : Rho} {vs : List V} {ds : List D} (I : EnvOk X.K X.prog X.w π N0 H0 N H σ ρ) (e1 : Ex π H H1) (r : RvL X.K X.prog X.w π (Hide N H1) vs ds) (at_ : ClsAt X.K c C)
    (q : (cond (ds.length == fl.length && decide (ds.length ≤ 1000)) (T.ret (Res.ex (α := Out) c (fldD2 fl ds))) .fail).all (ResP (OutOk X π N0 H0 De) (XOk X.K X.prog X.w π N0 H0 E))) :
    vs.length = fl.length ∧ vs.length ≤ 1000 ∧ (fl = [] → E (.ref C) none H1) ∧ (fl ≠ [] → ∀ d, H1 d = none → E (.ref C) (some d) (upd H1 d (.xd (flds fl vs)))) := by
  obtain ⟨hl, q⟩ := cond_all q
  simp only [Bool.and_eq_true, beq_iff_eq, decide_eq_true_eq] at hl
  have q : XOk X.K X.prog X.w π N0 H0 E c (fldD2 fl ds) := q
  have I1 := I.ext e1
  refine ⟨by rw [r.length]; exact hl.1, by rw [r.length]; exact hl.2, fun z => ?_, fun z d hd => ?_⟩
  · subst z
    exact q C none H1 ⟨I1.ex, I1.hn.pot⟩ at_ (.inl ⟨rfl, rfl⟩)
  · have en : Ex π H1 (upd H1 d (.xd (flds fl vs))) := Ex.new I1.hn.pot hd
    refine q C (some d) _ ⟨I1.ex.trans en.kp, en.pot⟩ at_ (ExD.less I.sub (.inr ⟨d, _, rfl, I1.hn.pot.ne hd, I1.hn.new hd, upd_same, ?_⟩))
    exact (RvF.zip fl (r.mono en.kp.hide)).rev
theorem ssx_raise {B newId initId : String} {bmB : List Value} {p2 : Pos} (hc : X.calm = true) (tk : Takes X (wcon E)) (T1 : ExM X.K B newId initId bmB C) (at_ : ClsAt X.K c C) (iC : PySem.W.findIn X.K (.ref C) "__init__" = some (some (.ref fI))) (tI : PySem.W.typeIn X.K (.ref fI) = some (.type "function"))
    (F1 : FnOk X.prog X.w X.K X.mg X.base CX0 k fI fd ps (spE C fl)) (hr : Room (k + 1) X.A) (hb : Binds X.K fd ps []) (hm : X.mg c = some (.ref C)) (ha : SndA X (e :: es) ms) (hg : Gl X c := by rfl) (hdb : (c == ("__debug__" : Str)) = false := by decide)
    (he : starEach (e :: es) X.env = (false, eval e X.env) :: starEach es X.env := by rfl) (hpl : (backTo pos (starEach es X.env)).any (·.1) = false := by rfl) : SndSX X E (.Raise (some (.Call (.Name c p) (e :: es) [] pos)) none p2) (sRaise c fl ms) := fun {π N0 H0 N H σ ρ De} I h =>
  ⟨_, ps_raise hc tk (pmk_ex T1 iC tI F1 hr hb hm pa_wp hg hdb he hpl), ha I (T.all_mono (fun ds hds => by intro vs H1 e1 r; exact raise_post I e1 r at_ hds) (T.all_bind.mp h))⟩
theorem sx_call {F : List D → T (Res D)} (tk : Takes X W) (G : FnOk X.prog X.w X.K X.mg X.base (L2.CX X.prog X.w) k f fd ps (spX X.K X.prog X.w n F)) (hr : Room k X.A) (hm : X.mg x = some (.ref f)) (hk : PySem.W.keepIn X.K (.ref f) = true) (hb : Binds X.K fd ps []) (ha : SndA X (e :: es) ms)
    (hg : Gl X x := by rfl) (hdb : (x == ("__debug__" : Str)) = false := by decide) (he : starEach (e :: es) X.env = (false, eval e X.env) :: starEach es X.env := by rfl) (hpl : (backTo pos (starEach es X.env)).any (·.1) = false := by rfl) : SndX X W (.Call (.Name x p) (e :: es) [] pos) (eCallX n F ms) := fun {π N0 H0 N H σ ρ Q} I h =>
  ⟨_, pe_callSD (E := fun σ => wat W σ) G hr hg hm hk hb .nil (fun σ => passAt tk σ) pa_wp hdb he hpl, ha I (T.all_mono (fun ds hd vs H2 e1 r => by
    obtain ⟨hn, hd⟩ := cond_all hd
    show spX X.K X.prog X.w n F (vs ++ []) H2 Q (wat W σ)
    rw [List.append_nil]
    exact ⟨π, N, ds, I.hn.ext e1, r, by rw [r.length]; exact by simpa using hn, T.all_mono (ResP.imp (fun d q v H3 e3 r3 => q v H3 (e1.trans e3) r3) fun _ _ z => z.up e1) hd⟩) (T.all_bind.mp h))⟩
end
def runBX (n : Nat) (m : Rho → T (Res Out)) : List D → T (Res D) := fun ds => (m (ds.map Ent.val ++ List.replicate (n - ds.length) Ent.un)).bindX fun o => match o with
  | .nx _ => .ret (.ok .non)
  | .rt d => .ret (.ok d)
  | .bk _ => .fail
  | .ct _ => .fail
section
variable {P : Program} {w : World} {K : PySem.W.Frag} {mg : Str → Option Value} {base : Heap}
/-- a def that may raise, by its body's reading -/
theorem fnX_ok {x qual : Str} {st : Stmt} {f : Addr} {fd : FuncData} {Nm ps : List Str} {k n p : Nat} {m : Rho → T (Res Out)} {G : List D → T (Res D)} (F : Fun K x qual st f fd) (S : FnScope Nm ps (defScope st)) (hn : Nm.length = n) (hp : ps.length = p) (hG : G = runBX n m)
    (hb : ∀ (cdv : Value) (A : Around) (outer : List Env) (s : Shared) (H : Hp) (E : XK), Room k (A.deeper (PyProof.Rows.envOfC qual (defScope st) s.heap.objs.size f cdv)) → Takes (cxOf (L2.CX P w) P w K mg base Nm qual (defScope st) f cdv A outer s H E) (wcon E) →
      SndBX (cxOf (L2.CX P w) P w K mg base Nm qual (defScope st) f cdv A outer s H E) E (defBody st) m) : FnOk P w K mg base (L2.CX P w) (k + 1) f fd ps (spX K P w p G) := by
  subst hn hp hG
  refine F.okX S (fun vs H Q E h => ?_) (fun cdv A outer s H vs Q E hr h => ?_)
  · obtain ⟨π, N, ds, hn, r, hl, _⟩ := h
    exact hl
  · obtain ⟨π, N, ds, hn, r, hl, hall⟩ := h
    refine hb cdv A outer s H E hr (takes_of rfl rfl rfl rfl) (env_start hn r) (T.all_mono (ResP.imp (fun o ho => ?_) fun _ _ z => z) (T.all_bindX hall))
    cases o with
    | nx ρ => exact fun N2 H2 σ2 I => ho .non H2 ⟨I.ex, I.hn.pot⟩ .non
    | rt d => exact fun v H2 e r => ho v H2 e r
    | bk ρ => exact False.elim ho
    | ct ρ => exact False.elim ho
end
end Pd
namespace Pd
open PySem L2 PySem.Spec PyProof.Rows
def spIX (K : PySem.W.Frag) (P : Program) (w : World) (c : Str) (n : Nat) (F : List D → T (Res (List (Str × D)))) : Sp := fun vs H Q E => ∃ (π : Addr) (N : Addr → Bool) (x dx C : Addr) (args : List V) (ds : List D), vs = .ref x :: args ∧ args.length = n ∧ HN π N H ∧ N x = true ∧ H x = some (.ins C dx []) ∧ ClsAt K c C ∧ RvL K P w π (Hide N H) args ds ∧
  (F ds).all (ResP (fun fs => ∀ (H2 : Hp) (fv : List (Str × V)), (∀ a o, a ≠ π → a ≠ x → H a = some o → H2 a = some o) → PotOk H2 π → H2 x = some (.ins C dx fv) → RvF K P w π (Hide N H2) fv fs → Q .non H2) (XOk K P w π (minus N x) (fun a => if a = x then none else H a) E))
def eMakeKX (c : Str) (n : Nat) (perm : List Nat) (F : List D → T (Res (List (Str × D)))) (ms : Rho → T (List D)) : Rho → T (Res D) := fun ρ => (ms ρ).bind fun ds => cond (ds.length == n) ((F (pickD perm ds)).bindX fun fs => .ret (.ok (.ins c fs))) .fail
section
variable {X : Cx} {W : WX} {E : XK} {e : Expr} {es : List Expr} {ms : Rho → T (List D)} {pos p : Pos} {k n : Nat} {f C : Addr} {fd : FuncData} {ps ks : List Str} {x c : Str}
theorem run_mkX {pins : List (Addr × Obj)} {σ : L2.St} {H : Hp} {s : Shared} {Q : VK} {us xs : List Value} {kw : List (Str × Value)} {vs : List V} {sp : Sp} (M : Mk X.K C f) (F : FnOk X.prog X.w X.K X.mg X.base (L2.CX X.prog X.w) k f fd ps sp) (hr : Room (k + 1) X.A) (tk : Takes X W) (I : L2.Inv X pins σ H s)
    (bnd : ∀ (y : Addr) (s2 : Shared), X.K.In s2.heap → (Value.ref y :: xs).length = ps.length → BindsTo s2 fd ⟨.ref y :: us, kw⟩ (ps.zip (.ref y :: xs))) (r : Vals vs xs)
    (h : ∀ y dx, H y = none → H dx = none → dx ≠ y → sp (.ref y :: vs) (upd (upd H dx (.own y)) y (.ins C dx [])) (fun v H2 => v = .non ∧ Q (.ref y) H2) (wat W σ)) : wpAny (model X.prog X.w) X.A (call (.ref C) us kw) (EP X pins σ Q) X.xe s := by
  have hq := h (s.heap.objs.size + 1) s.heap.objs.size (I.hok.fresh (Nat.le_succ _)) (I.hok.fresh (Nat.le_refl _)) (Nat.ne_of_lt (Nat.lt_succ_self _))
  have J := Inv.made (C := C) I
  have r2 : Vals (V.ref (s.heap.objs.size + 1) :: vs) (Value.ref (s.heap.objs.size + 1) :: xs) := .cons rfl r
  have lp : (Value.ref (s.heap.objs.size + 1) :: xs).length = ps.length := by
    have z := F.len _ _ _ _ hq
    rw [← z]
    exact (Paired.length r2).symm
  refine wpAny_call (make_map (f := f) I.kIn M.makes M.init (beq_iff_eq.mp M.fn) (codeAny_mono (F.run _ X.stack _ _ ⟨Value.ref (s.heap.objs.size + 1) :: us, kw⟩ _ _ _ (wat W σ) (hr.make C us kw) (J.env0.make C us kw) (bnd _ _ J.kIn lp) r2 hq) fun r s2 y => ?_))
  cases r with
  | error er => exact passAt tk σ pins _ _ er s2 J y
  | ok fl =>
    cases fl with
    | next => exact False.elim y
    | brk => exact False.elim y
    | cont => exact False.elim y
    | ret u =>
      obtain ⟨v, H2, I3, rv, ev, q3⟩ := J.after y
      subst ev
      exact ⟨rv, ⟨V.ref (s.heap.objs.size + 1), H2, I3, rfl, q3⟩⟩
theorem mkX_post {π : Addr} {N0 N : Addr → Bool} {H0 H H1 : Hp} {σ : L2.St} {ρ : Rho} {Q : VK} {args : List V} {ds : List D} {F : List D → T (Res (List (Str × D)))} (I : EnvOk X.K X.prog X.w π N0 H0 N H σ ρ) (e1 : Ex π H H1) (at_ : ClsAt X.K c C) (hl : args.length = n) (r : RvL X.K X.prog X.w π (Hide N H1) args ds)
    (hds : ((F ds).bindX fun fs => T.ret (Res.ok (D.ins c fs))).all (ResP (Kd X π N H Q) (XOk X.K X.prog X.w π N H (wat W σ)))) {y dx : Addr} (hy : H1 y = none) (hdx : H1 dx = none) (ne : dx ≠ y) :
    spIX X.K X.prog X.w c n F (.ref y :: args) (upd (upd H1 dx (.own y)) y (.ins C dx [])) (fun v H2 => v = .non ∧ Q (.ref y) H2) (wat W σ) := by
  have hn := I.hn.ext e1
  obtain ⟨a1, a2, a3⟩ := made_env (C := C) hn hy hdx ne
  have Ny : N y = false := hn.new hy
  refine ⟨π, plus N y, y, dx, C, args, ds, rfl, hl, a1, plus_self, upd_same, at_, r.mono a2, T.all_mono (ResP.imp (fun fs q H2 fv keep pot hy2 rf => ⟨rfl, ?_⟩) fun c2 fs q C2 d H2 e2 at2 rd => ?_) (T.all_bindX hds)⟩
  rotate_left
  · have k2 : Kp π (Hide (plus N y) H2) (Hide N H2) := Kp.less fun a h => plus_old h
    have q : Kd X π N H Q (.ins c fs) := q
    refine q (.ref y) H2 ⟨fun a o n h => ?_, pot⟩ (.ins at_ (by rw [hide_in Ny]; exact hy2) (hn.pot.ne hy) (RvF.mono k2 rf))
    have h1 := e1.kp a o n h
    exact keep a o n (ne_of_none h1 hy) (a3 a o h1)
  · refine q C2 d H2 ⟨fun a o n h => ?_, e2.pot⟩ at2 (ExD.less (fun a h => ?_) rd)
    · have h1 := e1.kp a o n h
      refine e2.kp a o n ?_
      show (if a = y then none else _) = _
      rw [if_neg (ne_of_none h1 hy)]
      exact a3 a o h1
    · refine minus_of (plus_old h) fun z => ?_
      rw [z, Ny] at h
      cases h
theorem sx_makeK {F : List D → T (Res (List (Str × D)))} {perm : List Nat} {kws : List Keyword} (tk : Takes X W) (M : Mk X.K C f) (G : FnOk X.prog X.w X.K X.mg X.base (L2.CX X.prog X.w) k f fd ps (spIX X.K X.prog X.w c n F)) (hr : Room (k + 1) X.A) (hm : X.mg c = some (.ref C)) (at_ : ClsAt X.K c C)
    (hb : KBind1 X.K fd ps ks perm) (hp : perm.length = n) (hkn : ks.length = n) (ha : SndK X kws ms) (hg : Gl X c := by rfl) (hall : (backToKw pos (keywordEach kws X.env)).all (·.1.isSome) = true := by rfl) (hks : (backToKw pos (keywordEach kws X.env)).filterMap (·.1) = ks := by rfl)
    (hdb : (c == ("__debug__" : Str)) = false := by decide) (hpl : ((backTo pos (starEach [] X.env)).any (·.1) || (backToKw pos (keywordEach kws X.env)).any (·.1.isNone)) = false := by rfl) : SndX X W (.Call (.Name c p) [] kws pos) (eMakeKX c n perm F ms) := fun {π N0 H0 N H σ ρ Q} I h => by
  refine ⟨fun σ H Q => wpK X kws σ H fun zs H1 => zs.length = n ∧ ∀ y dx, H1 y = none → H1 dx = none → dx ≠ y → spIX X.K X.prog X.w c n F (.ref y :: perm.map fun i => zs.getD i .non) (upd (upd H1 dx (.own y)) y (.ins C dx [])) (fun v H2 => v = .non ∧ Q (.ref y) H2) (wat W σ), ⟨fun pins s σ H Q J q => ?_⟩, ?_⟩
  · refine wpAny_Call_Name_kw (ld_glob J hg hm ?_ hdb)
    refine PySem.W.callWith_KW0 (h₀ := X.base) J.ok.mod.kin M.kp hall (thn (pk_wp.run pos pins s σ H _ J q) fun ws s2 ⟨zs, H2, I2, rz, hz, q2⟩ => ⟨I2.kIn, ?_⟩) hpl
    rw [hks]
    show wpAny _ _ (call (.ref C) [] (ks.zip ws)) _ _ _
    have lw : ws.length = ks.length := by rw [← rz.length, hz, hkn]
    exact run_mkX (us := []) (xs := perm.map fun i => ws.getD i .none) M G hr tk I2 (fun y s2 kin hl => hb s2 (.ref y) ws kin lw) (vals_pick rz perm) q2
  · refine ha I (T.all_mono (fun ds hds zs H1 e1 r => ?_) (T.all_bind.mp h))
    obtain ⟨hl, hds⟩ := cond_all hds
    have hl : ds.length = n := by simpa using hl
    exact ⟨by rw [r.length, hl], fun y dx hy hdx ne => mkX_post I e1 at_ (by rw [List.length_map, hp]) (rvl_pick r perm) hds hy hdx ne⟩
end
abbrev MIX : Type := Rho → List (Str × D) → T (Res (List (Str × D)))
def iX (k : MI) : MIX := fun ρ fs => T.ok (k ρ fs)
def iChkX (m : Rho → T (Res D)) (k : MIX) : MIX := fun ρ fs => (m ρ).bindX fun _ => k ρ fs
def iIfX (mt : Rho → T (Res Bool)) (m1 : Rho → T (Res Out)) (k : MIX) : MIX := fun ρ fs => (mt ρ).bindX fun b => cond b ((m1 ρ).bindX fun _ => .fail) (k ρ fs)
section
variable (X : Cx)
def SndInX (E : XK) (c0 : Str) (sts : List Stmt) (k : MIX) : Prop := ∀ ⦃π : Addr⦄ ⦃N0 : Addr → Bool⦄ ⦃H0 : Hp⦄ ⦃N : Addr → Bool⦄ ⦃H : Hp⦄ ⦃σ : L2.St⦄ ⦃ρ : Rho⦄ ⦃De : Ends⦄ ⦃x C dx : Addr⦄ ⦃fv : List (Str × V)⦄ ⦃fs : List (Str × D)⦄, EnvOk X.K X.prog X.w π N0 H0 N H σ ρ → σ[0]? = some (some (.ref x)) → N x = true → N0 x = false →
  (∀ (j : Nat) (f : Ent), ρ[j]? = some f → f.isOwn = false) → Cls X.K C → ClsAt X.K c0 C → H x = some (.ins C dx fv) → RvF X.K X.prog X.w π (Hide N H) fv fs →
  (k ρ fs).all (ResP (fun gs => ∀ (H2 : Hp) (gv : List (Str × V)), (∀ a o, a ≠ π → a ≠ x → H a = some o → H2 a = some o) → PotOk H2 π → H2 x = some (.ins C dx gv) → RvF X.K X.prog X.w π (Hide N H2) gv gs → ∀ σ2, De.nx σ2 H2) (XOk X.K X.prog X.w π N0 H0 E)) → wpSs X sts De σ H
end
section
variable {X : Cx} {E : XK} {c0 : Str} {rest bd : List Stmt} {e c : Expr} {mx : Rho → T (Res D)} {tx : Rho → T (Res Bool)} {m1 : Rho → T (Res Out)} {k : MIX} {pos : Pos}
theorem inx_of {sts : List Stmt} {ki : MI} (h : SndIn X c0 sts ki) : SndInX X E c0 sts (iX ki) := fun {π N0 H0 N H σ ρ De x C dx fv fs} I h0 hx n0 own cl at0 hH rf q => h I h0 hx n0 own cl at0 hH rf (T.all_okP q)
theorem inx_chk (he : SndX X (wcon E) e mx) (hr : SndInX X E c0 rest k) (hs : swapsWith e none pos.line X.env = pure false := by rfl) : SndInX X E c0 (.Expr e pos :: rest) (iChkX mx k) := fun {π N0 H0 N H σ ρ De x C dx fv fs} I h0 hx n0 own cl at0 hH rf q =>
  ⟨_, pss_cons (ps_expr pe_wp hs) pss_wp, he I (T.all_mono (ResP.imp (fun d hd => by
    intro v H2 e2 r
    exact hr (I.ext e2) h0 hx n0 own cl at0 (e2.kp x _ (N_ne I.hn hx) hH) (rf.mono e2.kp.hide) (T.all_mono (ResP.imp (fun gs g H3 gv a b c d => g H3 gv (fun y o y1 y2 z => a y o y1 y2 (e2.kp y o y1 z)) b c d) fun _ _ z => z) hd)) fun _ _ z => z.at I) (T.all_bindX q))⟩
theorem inx_if (hc : SndTX X (wcon E) c tx) (hb : SndBX X E bd m1) (hr : SndInX X E c0 rest k) : SndInX X E c0 (.If c bd [] pos :: rest) (iIfX tx m1 k) := fun {π N0 H0 N H σ ρ De x C dx fv fs} I h0 hx n0 own cl at0 hH rf q =>
  ⟨_, pss_cons (ps_if pt_wp pss_wp pss_nil) pss_wp, hc I (T.all_mono (ResP.imp (fun b hq H2 e2 => by
    cases b with
    | true => exact iteT (hb (I.ext e2) (T.all_mono (ResP.imp (fun o z => False.elim z) fun _ _ z => z) (T.all_bindX (show ((m1 ρ).bindX fun _ => T.fail).all _ from hq))))
    | false => exact iteF (hr (I.ext e2) h0 hx n0 own cl at0 (e2.kp x _ (N_ne I.hn hx) hH) (rf.mono e2.kp.hide) (T.all_mono (ResP.imp (fun gs g H3 gv a b c d => g H3 gv (fun y o y1 y2 z => a y o y1 y2 (e2.kp y o y1 z)) b c d) fun _ _ z => z) hq))) fun _ _ z => z.at I) (T.all_bindX q))⟩
end
section
variable {P : Program} {w : World} {K : PySem.W.Frag} {mg : Str → Option Value} {base : Heap}
def runIX (n : Nat) (k : MIX) : List D → T (Res (List (Str × D))) := fun ds => k (Ent.un :: (ds.map Ent.val ++ List.replicate (n - ds.length) Ent.un)) []
theorem initX_ok {qual c : Str} {st : Stmt} {f : Addr} {fd : FuncData} {Nm ps : List Str} {k n p : Nat} {C : Addr} {dvs : List V} {ki : MIX} (F : FunD K "__init__" qual (defArgs st) (defBody st) (defScope st) dvs [] f fd) (S : FnScope Nm ps (defScope st)) (hn : Nm.length = n + 1) (hp : ps.length = p + 1) (cl : Cls K C) (at_ : ClsAt K c C)
    (hb : ∀ (cdv : Value) (A : Around) (outer : List Env) (s : Shared) (H : Hp) (E : XK), Room k (A.deeper (PyProof.Rows.envOfC qual (defScope st) s.heap.objs.size f cdv)) → Takes (cxOf (L2.CX P w) P w K mg base Nm qual (defScope st) f cdv A outer s H E) (wcon E) →
      SndInX (cxOf (L2.CX P w) P w K mg base Nm qual (defScope st) f cdv A outer s H E) E c (defBody st) ki) : FnOk P w K mg base (L2.CX P w) (k + 1) f fd ps (spIX K P w c p (runIX n ki)) := by
  refine F.ok (k := k) S (fun vs H Q E h => ?_) (fun cdv A outer s H vs Q E hr h => ?_)
  · obtain ⟨π, N, x, dx, C, args, ds, rfl, hl, _⟩ := h
    rw [List.length_cons, hl, hp]
  · suffices z : wpSs (cxOf (L2.CX P w) P w K mg base Nm qual (defScope st) f cdv A outer s H E) (defBody st) { nx := fun _ H2 => Q .non H2, rt := Q } (L2.start Nm vs) H by
      obtain ⟨t, a, b⟩ := z
      exact ⟨t, a, b⟩
    obtain ⟨π, N, x, dx, C2, args, ds, rfl, hl, hn2, Nx, hx, hc, ra, hall⟩ := h
    have ec := at_.one hc
    subst ec
    have xpi := N_ne hn2 Nx
    have l1 := ra.length
    have noO : ∀ {j : Nat} {y : Ent}, (Ent.un :: (ds.map Ent.val ++ List.replicate (n - ds.length) Ent.un))[j]? = some y → y.isOwn = false := fun {j y} hy => by
      cases j with
      | zero => cases hy; rfl
      | succ j =>
        have hy2 : (ds.map Ent.val ++ List.replicate (n - ds.length) Ent.un)[j]? = some y := hy
        rcases List.mem_append.mp (List.mem_of_getElem? hy2) with z | z
        · obtain ⟨d, _, rfl⟩ := List.mem_map.mp z; rfl
        · rw [(List.mem_replicate.mp z).2]; rfl
    have E0 : EnvOk K P w π (minus N x) (fun a => if a = x then none else H a) N H (L2.start Nm (.ref x :: args)) (Ent.un :: (ds.map Ent.val ++ List.replicate (n - ds.length) Ent.un)) := by
      have s0 := env_start (Nm := Nm.drop 1) hn2 ra
      have len : (Nm.drop 1).length = n := by rw [List.length_drop, hn]; rfl
      rw [len] at s0
      have st0 : L2.start Nm (V.ref x :: args) = some (V.ref x) :: L2.start (Nm.drop 1) args := by
        unfold L2.start
        rw [List.map_cons, List.cons_append, len, hn, List.length_cons, show n + 1 - (args.length + 1) = n - args.length by omega]
      rw [st0]
      have J := s0.consUn (some (.ref x))
      refine ⟨J.hn, fun a o n1 h => ?_, fun a h => (minus_in h).1, fun a h => ?_, J.len, J.val, fun j y hy yo => ?_, J.inj⟩
      · by_cases z : a = x
        · subst z; simp at h
        · simpa [z] using h
      · by_cases z : a = x
        · subst z; exact .inr (by simp)
        · exact .inl (minus_of h z)
      · rw [noO hy] at yo
        cases yo
    refine hb cdv A outer s H E hr (takes_of rfl rfl rfl rfl) E0 ?_ Nx minus_self (fun j g hg => noO hg) cl at_ hx .nil (T.all_mono (ResP.imp (fun gs g H2 gv a b c d _ => g H2 gv a b c d) fun _ _ z => z) hall)
    unfold L2.start
    rfl
end
end Pd
namespace Pd
open PySem L2 PySem.Spec PyProof.Rows
abbrev Suite : Type := Addr → Value → Option Addr → TS
/-- the ends of a suite whose name goes -/
def goneE (i : Nat) (De : Ends) : Ends := { nx := fun σ H => De.nx (σ.set i none) H, rt := De.rt, bk := fun σ H => De.bk (σ.set i none) H, ct := fun σ H => De.ct (σ.set i none) H }
/-- what the clauses wish of what is raised, in turn -/
def wTry (K : PySem.W.Frag) (Wout : WX) (De : Ends) : List (Value × Option Nat × Suite) → WX
  | [] => Wout
  | (c, none, ts) :: r => fun cls d σ H => ∃ b, PySem.W.exmOne K cls c = some b ∧ (b = true → ∀ a, H a = none → ts a cls d De σ H) ∧ (b = false → wTry K Wout De r cls d σ H)
  | (c, some i, ts) :: r => fun cls d σ H => ∃ b, PySem.W.exmOne K cls c = some b ∧ (b = true → ∀ a, H a = none → ts a cls d (goneE i De) (σ.set i (some (.ref a))) H) ∧ (b = false → wTry K Wout De r cls d σ H)
inductive Cls1 (X : Cx) : List ExceptHandler → List (Value × Option Nat × Suite) → Prop
  | nil : Cls1 X [] []
  | bare {x : Str} {c : Value} {ts : Suite} {s0 : Stmt} {ss : List Stmt} {p1 p2 : Pos} {hds : List ExceptHandler} {l : List (Value × Option Nat × Suite)} (hc : Names X x c)
      (hsu : ∀ (a : Addr) (oe : Obj) (cls : Value) (d : Option Addr) (pn : List (Addr × Obj)), Zc cls d oe → (∃ vs, oe.data = .fields vs) → PSs (X.suite a ((a, oe) :: pn)) (s0 :: ss) (ts a cls d)) (r : Cls1 X hds l) : Cls1 X (.ExceptHandler (some (.Name x p1)) none (s0 :: ss) p2 :: hds) ((c, none, ts) :: l)
  | named {x n : Str} {i : Nat} {c : Value} {ts : Suite} {s0 : Stmt} {ss : List Stmt} {p1 p2 : Pos} {hds : List ExceptHandler} {l : List (Value × Option Nat × Suite)} (hc : Names X x c) (hi : X.N[i]? = some n) (hln : X.env.kindOf n = some .local)
      (hsu : ∀ (a : Addr) (oe : Obj) (cls : Value) (d : Option Addr) (pn : List (Addr × Obj)), Zc cls d oe → (∃ vs, oe.data = .fields vs) → PSs (X.suite a ((a, oe) :: pn)) (s0 :: ss) (ts a cls d)) (r : Cls1 X hds l) : Cls1 X (.ExceptHandler (some (.Name x p1)) (some n) (s0 :: ss) p2 :: hds) ((c, some i, ts) :: l)
section
variable {X : Cx} {body : List Stmt} {h0 : ExceptHandler} {hds : List ExceptHandler} {l : List (Value × Option Nat × Suite)} {pos : Pos} {tb : WX → TS} {Wout : WX}
theorem ps_try_nm (hs : X.stack = X.env :: X.outer) (hf : X.env.frame = some X.env.locals) (hN : X.N.Nodup) (tk : Takes X Wout)
    (hb : ∀ (W : WX) (pn : List (Addr × Obj)) (xe : Value → Shared → Prop), Takes (X.tr pn xe) W → PassesOwn (model X.prog X.w) X.A X.env xe → PSs (X.tr pn xe) body (tb W)) (hh : Cls1 X (h0 :: hds) l) :
    PS X (.Try body (h0 :: hds) [] [] pos) (fun De σ H => tb (wTry X.K Wout De l) De σ H) := by
  refine ⟨fun pins s σ H De I h => wpAny_Try_except ?_⟩
  have ok := I.ok
  have hfr : X.A.frames = some (X.env :: X.outer) := by rw [ok.frames, hs]
  -- a suite's end, back in the def
  have back : ∀ {σ6 : L2.St} {H6 : Hp} {s6 : Shared} {a : Addr} {q : Addr × Obj} {f : Flow}, SP (X.suite a (q :: (X.pn ++ pins))) [] De f s6 → SP X pins De f s6 := fun {σ6 H6 s6 a q f} hsp => by
    cases f with
    | ret u => obtain ⟨v, σ', H', J, r, z⟩ := hsp; exact ⟨v, σ', H', J.unsuite ok, r, z⟩
    | next => obtain ⟨σ', H', J, z⟩ := hsp; exact ⟨σ', H', J.unsuite ok, z⟩
    | brk => obtain ⟨σ', H', J, z⟩ := hsp; exact ⟨σ', H', J.unsuite ok, z⟩
    | cont => obtain ⟨σ', H', J, z⟩ := hsp; exact ⟨σ', H', J.unsuite ok, z⟩
  refine wpAny_mono ((hb (wTry X.K Wout De l) (X.pn ++ pins) (fun e s1 => wpAny (model X.prog X.w) X.A (noteFrame e X.env) (fun _ s2 => wpAny (model X.prog X.w) X.A (setFlight e none) (fun _ s3 => wpAny (model X.prog X.w) X.A (handleBy e X.env (h0 :: hds)) (SP X pins De) X.xe s3) X.xe s2) X.xe s1)
    (fun u s2 xx => ?_) PassesOwn.looking).run [] s σ H De (I.toTry _) h) (fun f s1 hsp => ?_) fun _ _ z => z
  rotate_left
  · cases f with
    | ret u => obtain ⟨v, σ', H', J, r, z⟩ := hsp; exact ⟨v, σ', H', J.ofTry ok, r, z⟩
    | next => obtain ⟨σ', H', J, z⟩ := hsp; exact wpAny_execs_nil ⟨σ', H', J.ofTry ok, z⟩
    | brk => obtain ⟨σ', H', J, z⟩ := hsp; exact ⟨σ', H', J.ofTry ok, z⟩
    | cont => obtain ⟨σ', H', J, z⟩ := hsp; exact ⟨σ', H', J.ofTry ok, z⟩
  obtain ⟨a, B, sI, pins2, σ2, H2, cls, d, rfl, J0, nb, up, sky, na, os, ag, wish⟩ := xx
  have J : L2.Inv X pins σ2 H2 sI := J0.ofTry ok
  show wpAny (model X.prog X.w) X.A (noteFrame (.ref a) X.env) _ _ _
  refine Sky.land Zc.steady hfr hf (show Sky B (X.env :: X.outer) a (Zc cls d) X.env.locals s2.heap by rw [← hs]; exact sky) fun h3 fl3 up3 => ?_
  have J3 : L2.Inv X pins σ2 H2 { s2 with heap := h3 } := J.landed nb fl3.1 (up.trans up3) os ag
  obtain ⟨oe3, vs3, he3, hz3, hd3⟩ := fl3.there
  have nfr : a ∉ frs (X.env :: X.outer) := fun hm => by
    obtain ⟨_, o2, e2, hnf⟩ := fl3.2.2.1.mem hm
    rw [he3] at e2
    cases e2
    exact hnf _ hd3
  have nL : a ≠ X.env.locals := fun z => nfr (List.mem_filterMap.mpr ⟨X.env, List.mem_cons_self, by rw [hf, z]⟩)
  have nF : a ∉ X.fs := fun hm => by
    obtain ⟨e, he, q⟩ := List.mem_filterMap.mp hm
    exact nfr (List.mem_filterMap.mpr ⟨e, List.mem_cons_of_mem _ he, q⟩)
  have S3 := J3.suite he3 hd3 na nL nF
  have LT : PySem.W.Looks (model X.prog X.w) h3 (typeOf (.ref a)) cls := fun A Q E s k q => wpAny_typeOf_ref (k _ _ he3) (by rw [hz3.1]; exact q)
  have test : ∀ {x : Str} {c : Value} {p1 : Pos} {Q : Value → Shared → Prop} {E : Value → Shared → Prop}, Names X x c → Q c { s2 with heap := h3 } → wpAny (model X.prog X.w) (X.A.mark (some (.ref a))) (eval (.Name x p1) X.env) Q E { s2 with heap := h3 } := fun {x c p1 Q E} hc q => by
    obtain ⟨hg, hdbg, hm | ⟨hm, hv, hnn⟩⟩ := hc
    · exact ld_glob (X := X.suite a ((a, oe3) :: (X.pn ++ pins))) S3 hg hm q hdbg
    · exact ld_blt (X := X.suite a ((a, oe3) :: (X.pn ++ pins))) S3 hg hm hv q hnn hdbg
  have go : ∀ {hds2 : List ExceptHandler} {l2 : List (Value × Option Nat × Suite)}, Cls1 X hds2 l2 → wTry X.K Wout De l2 cls d σ2 H2 → wpAny (model X.prog X.w) X.A (handleBy (.ref a) X.env hds2) (SP X pins De) X.xe { s2 with heap := h3 } := by
    intro hds2 l2 hk
    induction hk with
    | nil =>
      intro w
      refine wpAny_handleBy_nil ?_
      obtain ⟨k1, k2, k3, oe, vs, T1, oT, ts2, he, hz, hd, h1, hr⟩ := id fl3
      unfold PySem.passOn
      refine wpAny_bind (wpAny_field he hd h1 ?_)
      rw [if_neg (show ¬ ((Value.ref T1 == Value.none) = true) from by simp)]
      have fin : wpAny (model X.prog X.w) X.A (setFlight (.ref a) X.env.frame) (fun _ s4 => wpAny (model X.prog X.w) X.A (throw (.ref a) : Sem Flow) (SP X pins De) X.xe s4) X.xe { s2 with heap := h3 } := by
        rw [hf]
        exact HandSPX.setFlight_upZ fl3 fun h4 hh4 up4 => wpAny_throw (tk _ _ ⟨a, B, sI, pins, σ2, H2, cls, d, rfl, J, nb, (up.trans up3).trans up4, .inr (.inr (by rw [hs]; exact hh4)), na, os, ag, w⟩)
      first
        | exact wpAny_bind (wpAny_pure (wpAny_bind fin))
        | exact wpAny_bind fin
    | @bare x c ts s0 ss p1 p2 hds3 l3 hc hsu r ih =>
      intro w
      obtain ⟨b, hb1, hyes, hno⟩ := w
      refine wpAny_handleBy_cons (codeAny_handlers_test (test hc ((PySem.W.exm_one (M := model X.prog X.w) J3.kIn LT hb1).here ?_))) fun q => by cases q
      cases b with
      | false => exact ih (hno rfl)
      | true =>
        refine codeAny_handlers_suite (HandSPX.lands_againZ fl3 fun h4 fl4 up4 => ?_)
        have J4 : L2.Inv X pins σ2 H2 { s2 with heap := h4 } := J.landed nb fl4.1 ((up.trans up3).trans up4) os ag
        obtain ⟨oe4, vs4, he4, hz4, hd4⟩ := fl4.there
        exact wpAny_mono ((hsu a oe4 cls d (X.pn ++ pins) hz4 ⟨_, hd4⟩).run [] _ σ2 H2 _ (J4.suite he4 hd4 na nL nF) (hyes rfl a na)) (fun f s6 hsp => back (σ6 := σ2) (H6 := H2) hsp) fun _ _ z => False.elim z
    | @named x n i c ts s0 ss p1 p2 hds3 l3 hc hi hln hsu r ih =>
      intro w
      obtain ⟨b, hb1, hyes, hno⟩ := w
      refine wpAny_handleBy_cons (codeAny_handlers_test (test hc ((PySem.W.exm_one (M := model X.prog X.w) J3.kIn LT hb1).here ?_))) fun q => by cases q
      cases b with
      | false => exact ih (hno rfl)
      | true =>
        refine codeAny_handlers_suite_as (HandSPX.lands_againZ fl3 fun h4 fl4 up4 => ?_)
        have J4 : L2.Inv X pins σ2 H2 { s2 with heap := h4 } := J.landed nb fl4.1 ((up.trans up3).trans up4) os ag
        obtain ⟨oe4, vs4, he4, hz4, hd4⟩ := fl4.there
        refine store_ok (X := X.suite a ((a, oe4) :: (X.pn ++ pins))) (v := .ref a) (J4.suite he4 hd4 na nL nF) hN hi (.inl hln) rfl (fun s5 S5 => ?_) (.inr hln)
        refine wpAny_mono ((hsu a oe4 cls d (X.pn ++ pins) hz4 ⟨_, hd4⟩).run [] s5 _ H2 _ S5 (hyes rfl a na)) (fun f s6 hsp => ?_) fun _ _ z => False.elim z
        have done : ∀ {σ6 : L2.St} {H6 : Hp} {Q : Shared → Prop}, L2.Inv (X.suite a ((a, oe4) :: (X.pn ++ pins))) [] σ6 H6 s6 → (∀ s7, L2.Inv X pins (σ6.set i none) H6 s7 → Q s7) → wpAny (model X.prog X.w) X.A (do bindName X.env n .none; unbindBehindTheSuite X.env n p2) (fun _ s7 => Q s7) X.xe s6 :=
          fun {σ6 H6 Q} S6 hq => gone_ok (S6.unsuite ok) hN hi hln hq
        cases f with
        | ret u => obtain ⟨v, σ6, H6, S6, r6, q6⟩ := hsp; exact done S6 fun s7 J7 => ⟨_, _, _, J7, r6, q6⟩
        | next => obtain ⟨σ6, H6, S6, q6⟩ := hsp; exact done S6 fun s7 J7 => ⟨_, _, J7, q6⟩
        | brk => obtain ⟨σ6, H6, S6, q6⟩ := hsp; exact done S6 fun s7 J7 => ⟨_, _, J7, q6⟩
        | cont => obtain ⟨σ6, H6, S6, q6⟩ := hsp; exact done S6 fun s7 J7 => ⟨_, _, J7, q6⟩
  exact go hh wish
end
end Pd
namespace Pd
open PySem L2 PySem.Spec PyProof.Rows
/-- what an exception's class must tell, so that its instances' attributes are read and isinstance asks them -/
structure ExI (K : PySem.W.Frag) (C : Addr) : Prop where
  cl : (PySem.W.clsIn K C).isSome = true
  ga : PySem.W.findIn K (.ref C) "__getattribute__" = some (some (.builtin "BaseException.__getattribute__"))
  gg : PySem.W.findIn K (.ref C) "__getattr__" = some none
  sub : PySem.W.subIn K (.ref C) (.type "BaseException") = some true
  hd : PySem.W.hasDictIn K C = true
  ca : PySem.W.findIn K (.ref C) "__class__" = some (some (.builtin "object.__class__"))
  gt : PySem.W.specialIn K (.builtin "object.__class__") "__get__" = some (some (.builtin "getset_descriptor.__get__"))
  tk : PySem.W.takesIn K (.builtin "object.__class__") = some true
  ob : PySem.W.mroIn K C (.type "object") = some true
def exIB (K : PySem.W.Frag) (C : Addr) : Bool := (PySem.W.clsIn K C).isSome && decide (PySem.W.findIn K (.ref C) "__getattribute__" = some (some (.builtin "BaseException.__getattribute__"))) && decide (PySem.W.findIn K (.ref C) "__getattr__" = some none) && decide (PySem.W.subIn K (.ref C) (.type "BaseException") = some true) &&
  PySem.W.hasDictIn K C && decide (PySem.W.findIn K (.ref C) "__class__" = some (some (.builtin "object.__class__"))) && decide (PySem.W.specialIn K (.builtin "object.__class__") "__get__" = some (some (.builtin "getset_descriptor.__get__"))) && decide (PySem.W.takesIn K (.builtin "object.__class__") = some true) && decide (PySem.W.mroIn K C (.type "object") = some true)
theorem exI_of {K : PySem.W.Frag} {C : Addr} (h : exIB K C = true) : ExI K C := by
  unfold exIB at h
  simp only [Bool.and_eq_true, decide_eq_true_eq] at h
  obtain ⟨⟨⟨⟨⟨⟨⟨⟨h1, h2⟩, h3⟩, h4⟩, h5⟩, h6⟩, h7⟩, h8⟩, h9⟩ := h
  exact ⟨h1, h2, h3, h4, h5, h6, h7, h8, h9⟩
theorem ExI.xf {K : PySem.W.Frag} {C : Addr} (h : ExI K C) : XfC K C := ⟨h.ga, h.gg, h.sub, h.hd⟩
structure Caught (X : Cx) (π : Addr) (N : Addr → Bool) (H : Hp) (cls : Value) (d : Option Addr) (c : Str) (fs : List (Str × D)) : Prop where
  cls : ∃ C, cls = .ref C ∧ ClsAt X.K c C
  dict : ExD X.K X.prog X.w π N H d fs
theorem Caught.ext {X : Cx} {π : Addr} {N : Addr → Bool} {H H2 : Hp} {cls : Value} {d : Option Addr} {c : Str} {fs : List (Str × D)} (h : Caught X π N H cls d c fs) (e : Ex π H H2) : Caught X π N H2 cls d c fs := ⟨h.cls, h.dict.ext e⟩
section
variable (X : Cx) (c : Str) (i : Nat)
def SndC (e : Expr) (m : List (Str × D) → Rho → T D) : Prop := ∀ ⦃a : Addr⦄ ⦃oe : Obj⦄ ⦃cls : Value⦄ ⦃d : Option Addr⦄ ⦃pn : List (Addr × Obj)⦄, Zc cls d oe → (∃ vs, oe.data = .fields vs) → ∀ ⦃π : Addr⦄ ⦃N0 : Addr → Bool⦄ ⦃H0 : Hp⦄ ⦃N : Addr → Bool⦄ ⦃H : Hp⦄ ⦃σ : L2.St⦄ ⦃ρ : Rho⦄ ⦃Q : VK⦄ ⦃fs : List (Str × D)⦄,
  EnvOk X.K X.prog X.w π N0 H0 N H σ ρ → σ[i]? = some (some (.ref a)) → Caught X π N H cls d c fs → (m fs ρ).all (Kd X π N H Q) → wpE (X.suite a ((a, oe) :: pn)) e σ H Q
def SndCA (es : List Expr) (m : List (Str × D) → Rho → T (List D)) : Prop := ∀ ⦃a : Addr⦄ ⦃oe : Obj⦄ ⦃cls : Value⦄ ⦃d : Option Addr⦄ ⦃pn : List (Addr × Obj)⦄, Zc cls d oe → (∃ vs, oe.data = .fields vs) → ∀ ⦃π : Addr⦄ ⦃N0 : Addr → Bool⦄ ⦃H0 : Hp⦄ ⦃N : Addr → Bool⦄ ⦃H : Hp⦄ ⦃σ : L2.St⦄ ⦃ρ : Rho⦄ ⦃Q : List V → Hp → Prop⦄ ⦃fs : List (Str × D)⦄,
  EnvOk X.K X.prog X.w π N0 H0 N H σ ρ → σ[i]? = some (some (.ref a)) → Caught X π N H cls d c fs → (m fs ρ).all (Ka X π N H Q) → wpA (X.suite a ((a, oe) :: pn)) es σ H Q
def SndCS (st : Stmt) (m : List (Str × D) → Rho → T Out) : Prop := ∀ ⦃a : Addr⦄ ⦃oe : Obj⦄ ⦃cls : Value⦄ ⦃d : Option Addr⦄ ⦃pn : List (Addr × Obj)⦄, Zc cls d oe → (∃ vs, oe.data = .fields vs) → ∀ ⦃π : Addr⦄ ⦃N0 : Addr → Bool⦄ ⦃H0 : Hp⦄ ⦃N : Addr → Bool⦄ ⦃H : Hp⦄ ⦃σ : L2.St⦄ ⦃ρ : Rho⦄ ⦃De : Ends⦄ ⦃fs : List (Str × D)⦄,
  EnvOk X.K X.prog X.w π N0 H0 N H σ ρ → σ[i]? = some (some (.ref a)) → Caught X π N H cls d c fs → (m fs ρ).all (OutOk X π N0 H0 De) → wpS (X.suite a ((a, oe) :: pn)) st De σ H
end
abbrev MC : Type := List (Str × D) → Rho → T D
def cFld (f : Str) : MC := fun fs _ => optT (fieldD f fs)
def cEx (m : Rho → T D) : MC := fun _ => m
def cNil : List (Str × D) → Rho → T (List D) := fun _ _ => .ret []
def cCons (m : MC) (ms : List (Str × D) → Rho → T (List D)) : List (Str × D) → Rho → T (List D) := fun fs ρ => (m fs ρ).bind fun d => (ms fs ρ).bind fun ds => .ret (d :: ds)
def cLst (ms : List (Str × D) → Rho → T (List D)) : MC := fun fs ρ => (ms fs ρ).bind fun ds => cond (small ds) (.ret (.lst ds)) .fail
def cCa (f : List D → T D) (m : MC) : MC := fun fs ρ => (m fs ρ).bind fun d => f [d]
def cSet (j : Nat) (m : MC) : List (Str × D) → Rho → T Out := fun fs ρ => (m fs ρ).bind fun d => .ret (.nx (ρ.set j (.val d)))
section
variable {X : Cx} {c : Str} {i : Nat} {C : Addr} {e e2 : Expr} {es : List Expr} {m m1 m2 : MC} {mr : Rho → T D} {ms : List (Str × D) → Rho → T (List D)} {pos p : Pos} {n f : Str}
theorem sc_of (h : ∀ a q pn, Snd (X.suite a (q :: pn)) e mr) : SndC X c i e (cEx mr) := fun {a oe cls d pn} hz hf {π N0 H0 N H σ ρ Q fs} I hs hc q => h a (a, oe) pn I q
theorem sc_fld (at_ : ClsAt X.K c C) (T : ExI X.K C) (hno : PySem.W.findIn X.K (.ref C) f = some none) (hN : X.N[i]? = some n := by rfl) (hv : Vis X.env.scope n := by first | exact Or.inl rfl | exact Or.inr (Or.inl rfl) | exact Or.inr (Or.inr rfl)) (hd : (n == ("__debug__" : Str)) = false := by decide) (hcd : (n == ("__classdict__" : Str)) = false := by decide)
    (hb : attributeBase (.Name n p) f X.env (eval (.Name n p) X.env) = eval (.Name n p) X.env := by rfl) : SndC X c i (.Attribute (.Name n p) f pos) (cFld f) := fun {a oe cls d pn} hz hf {π N0 H0 N H σ ρ Q fs} I hs hc q => by
  obtain ⟨dv, hl, q⟩ := optT_all q
  obtain ⟨C2, rfl, h2⟩ := hc.cls
  have e3 := at_.one h2
  subst e3
  rcases hc.dict with ⟨_, rfl⟩ | ⟨dd, vs, rfl, hp, hn, hx, rf⟩
  · cases hl
  · obtain ⟨v, hv2, rv⟩ := rf.get hl
    exact ⟨_, pe_xf (X := X) T.xf hno hz hf (pe_var (X := X.suite a ((a, oe) :: pn)) hN hv hd hcd) hb, .ref a, hs, rfl, rfl, dd, vs, v, rfl, hx, hv2, q v H (Ex.refl I.hn.pot) rv⟩
theorem sca_nil : SndCA X c i [] cNil := fun {a oe cls d pn} hz hf {π N0 H0 N H σ ρ Q fs} I hs hc q => ⟨_, pa_nil, q _ _ (Ex.refl I.hn.pot) .nil⟩
theorem sca_cons (h1 : SndC X c i e m) (h2 : SndCA X c i es ms) (hst : starEach (e :: es) X.env = (false, eval e X.env) :: starEach es X.env := by rfl) : SndCA X c i (e :: es) (cCons m ms) := fun {a oe cls d pn} hz hf {π N0 H0 N H σ ρ Q fs} I hs hc q =>
  ⟨_, pa_cons (X := X.suite a ((a, oe) :: pn)) pe_wp pa_wp hst, h1 hz hf I hs hc (T.all_mono (fun dv hd v H1 e1 r => h2 hz hf (I.ext e1) hs (hc.ext e1) (T.all_mono (fun ds hds => by intro vs H2 e2 r2; exact hds _ _ (e1.trans e2) (.cons (r.mono e2.kp.hide) r2)) (T.all_bind.mp hd))) (T.all_bind.mp q))⟩
theorem sc_lst (h : SndCA X c i es ms) : SndC X c i (.List es pos) (cLst ms) := fun {a oe cls d pn} hz hf {π N0 H0 N H σ ρ Q fs} I hs hc q =>
  ⟨_, pe_lst pa_wp, h hz hf I hs hc (T.all_mono (fun ds hd vs H2 e r => by
    obtain ⟨hsm, hd⟩ := cond_all hd
    refine ⟨small_ok r hsm, fun p hp => ?_⟩
    have np := (I.hn.ext e).new hp
    exact hd _ _ (e.trans (Ex.new e.pot hp)) (.lst (hide_new np) (e.pot.ne hp) (r.mono (Ex.new e.pot hp).kp.hide))) (T.all_bind.mp q))⟩
/-- f(e.x), f built in -/
theorem sc_callB {id : String} {g : List D → T D} {x : Str} {p2 : Pos} (hc : ∀ a q pn, CaSnd (X.suite a (q :: pn)) (.builtin id) g) (h : SndC X c i e m) (hm : X.mg x = none) (hv : bootBuiltins x = some (.builtin id)) (hg : Gl X x := by rfl) (hn : x ≠ "__name__" := by decide) (hdb : (x == ("__debug__" : Str)) = false := by decide)
    (he : starEach [e] X.env = (false, eval e X.env) :: starEach [] X.env := by rfl) (hpl : (backTo pos (starEach [] X.env)).any (·.1) = false := by rfl) : SndC X c i (.Call (.Name x p2) [e] [] pos) (cCa g m) := fun {a oe cls d pn} hz hf {π N0 H0 N H σ ρ Q fs} I hs hcg q =>
  ⟨_, pe_callB (X := X.suite a ((a, oe) :: pn)) ca_wp hg hm hv (pa_cons (X := X.suite a ((a, oe) :: pn)) pe_wp pa_nil he) hn hdb he hpl, h hz hf I hs hcg (T.all_mono (fun dv hd v H1 e1 r => hc a (a, oe) pn (I.hn.ext e1) (.cons r .nil) (T.all_mono (fun _ q => q.up e1) hd)) (T.all_bind.mp q))⟩
theorem scs_set {j : Nat} {y : Str} {p2 : Pos} (hN : X.N.Nodup) (h : SndC X c i e m) (hj : X.N[j]? = some y := by rfl) (hx : Loc X.env.scope y := by first | exact .inl rfl | exact .inr rfl) (hsw : swapsWith e (some (.Name y p2)) pos.line X.env = pure false := by rfl) (hf2 : X.fn y = true ∨ X.env.scope.names.lookup y = some .local := by first | exact .inl rfl | exact .inr rfl) :
    SndCS X c i (.Assign [.Name y p2] e pos) (cSet j m) := fun {a oe cls d pn} hz hf {π N0 H0 N H σ ρ De fs} I hs hc q =>
  ⟨_, ps_set (X := X.suite a ((a, oe) :: pn)) hN hj hx pe_wp hsw hf2, h hz hf I hs hc (T.all_mono (fun dv hd => by intro v H2 e2 r; exact hd _ _ _ ((I.ext e2).set r)) (T.all_bind.mp q))⟩
end
/-- the slot of a name that holds whatever -/
theorem EnvOk.wipeV {K : PySem.W.Frag} {P : Program} {w : World} {π : Addr} {N0 N : Addr → Bool} {H0 H : Hp} {σ : L2.St} {ρ : Rho} {i : Nat} {o : Option V} (I : EnvOk K P w π N0 H0 N H σ ρ) : EnvOk K P w π N0 H0 N H (σ.set i o) (ρ.set i .un) := by
  refine ⟨I.hn, I.ex, I.sub, I.own0, by rw [List.length_set, List.length_set]; exact I.len, fun j d h => ?_, fun j d h xo => ?_, fun j k f g l h1 h2 o1 o2 s1 s2 => ?_⟩
  · rcases at_set h with ⟨rfl, _, q⟩ | ⟨q, h⟩
    · cases q
    · rw [List.getElem?_set_ne q]
      exact I.val j d h
  · rcases at_set h with ⟨rfl, _, q⟩ | ⟨q, h⟩
    · subst q
      cases xo
    · rw [List.getElem?_set_ne q]
      exact I.own j d h xo
  · rcases at_set h1 with ⟨rfl, _, q⟩ | ⟨q, h1⟩
    · subst q
      cases o1
    rcases at_set h2 with ⟨rfl, _, q2⟩ | ⟨q2, h2⟩
    · subst q2
      cases o2
    rw [List.getElem?_set_ne q] at s1
    rw [List.getElem?_set_ne q2] at s2
    exact I.inj j k f g l h1 h2 o1 o2 s1 s2
/-- a clause: the class's name, its name's slot, its suite -/
abbrev Clause : Type := Str × Option Nat × (List (Str × D) → Rho → T Out)
def goneO (i : Nat) : Out → Out
  | .nx ρ => .nx (ρ.set i .un)
  | .bk ρ => .bk (ρ.set i .un)
  | .ct ρ => .ct (ρ.set i .un)
  | .rt d => .rt d
def catchT : List Clause → Str → List (Str × D) → Rho → T Out
  | [], _, _, _ => .fail
  | (c2, none, h) :: r, c, fs, ρ => cond (c == c2) (h fs ρ) (catchT r c fs ρ)
  | (c2, some i, h) :: r, c, fs, ρ => cond (c == c2) (cond (decide (i < ρ.length)) ((h fs (ρ.set i .un)).bind fun o => .ret (goneO i o)) .fail) (catchT r c fs ρ)
def sTry (cs : List Str) (m : Rho → T (Res Out)) (hs : List Clause) : Rho → T Out := fun ρ => (m ρ).bind fun r => match r with
  | .ok o => .ret o
  | .ex c fs => cond (cs.contains c) (catchT hs c fs ρ) .fail
/-- which of these classes is which -/
def exTab (K : PySem.W.Frag) (cs ds : List Str) : Bool := cs.all fun c => ds.all fun c2 => match PySem.W.nsIn K mainGlobals c, PySem.W.nsIn K mainGlobals c2 with
  | some (some (.ref C)), some (some (.ref C2)) => PySem.W.exmOne K (.ref C) (.ref C2) == some (c == c2)
  | _, _ => false
theorem exTab_at {K : PySem.W.Frag} {cs ds : List Str} (h : exTab K cs ds = true) {c c2 : Str} {C C2 : Addr} (h1 : c ∈ cs) (h2 : c2 ∈ ds) (a1 : ClsAt K c C) (a2 : ClsAt K c2 C2) : PySem.W.exmOne K (.ref C) (.ref C2) = some (c == c2) := by
  have z := List.all_eq_true.mp (List.all_eq_true.mp h c h1) c2 h2
  rw [show PySem.W.nsIn K mainGlobals c = _ from a1, show PySem.W.nsIn K mainGlobals c2 = _ from a2] at z
  exact eq_of_beq z
section
variable (X : Cx) (cs : List Str)
/-- a try's body: what it raises leaves the names as they are -/
def SndTr (sts : List Stmt) (m : Rho → T (Res Out)) : Prop := ∀ (W : WX) (pn : List (Addr × Obj)) (xe : Value → Shared → Prop), Takes (X.tr pn xe) W → PassesOwn (model X.prog X.w) X.A X.env xe → ∀ ⦃π : Addr⦄ ⦃N0 : Addr → Bool⦄ ⦃H0 : Hp⦄ ⦃N : Addr → Bool⦄ ⦃H : Hp⦄ ⦃σ : L2.St⦄ ⦃ρ : Rho⦄ ⦃De : Ends⦄,
  EnvOk X.K X.prog X.w π N0 H0 N H σ ρ → (m ρ).all (ResP (OutOk X π N0 H0 De) (fun c fs => c ∈ cs ∧ XOk X.K X.prog X.w π N H (wat W σ) c fs)) → wpSs (X.tr pn xe) sts De σ H
inductive SndH : List ExceptHandler → List Clause → Prop
  | nil : SndH [] []
  | bare {c : Str} {C : Addr} {m : Rho → T Out} {st : Stmt} {p1 p2 : Pos} {hds : List ExceptHandler} {l : List Clause} (at_ : ClsAt X.K c C) (hn : Names X c (.ref C)) (tab : exTab X.K cs [c] = true) (h : ∀ a q pn, SndS (X.suite a (q :: pn)) st m) (r : SndH hds l) :
      SndH (.ExceptHandler (some (.Name c p1)) none [st] p2 :: hds) ((c, none, fun _ => m) :: l)
  | named {c n : Str} {i : Nat} {C : Addr} {m : List (Str × D) → Rho → T Out} {st : Stmt} {p1 p2 : Pos} {hds : List ExceptHandler} {l : List Clause} (at_ : ClsAt X.K c C) (hn : Names X c (.ref C)) (tab : exTab X.K cs [c] = true) (hi : X.N[i]? = some n) (hln : X.env.kindOf n = some .local) (h : SndCS X c i st m) (r : SndH hds l) :
      SndH (.ExceptHandler (some (.Name c p1)) (some n) [st] p2 :: hds) ((c, some i, m) :: l)
end
section
variable {X : Cx} {cs : List Str} {sts : List Stmt} {m : Rho → T (Res Out)} {h0 : ExceptHandler} {hds : List ExceptHandler} {l : List Clause} {pos : Pos}
/-- a suite as it is read by the exception's class alone -/
def suiteW (X : Cx) (sts : List Stmt) : Suite := fun a cls d De σ H => ∀ oe pn, Zc cls d oe → (∃ vs, oe.data = .fields vs) → wpSs (X.suite a ((a, oe) :: pn)) sts De σ H
theorem suite_ok {st : Stmt} {a : Addr} {oe : Obj} {cls : Value} {d : Option Addr} {pn : List (Addr × Obj)} (hz : Zc cls d oe) (hf : ∃ vs, oe.data = .fields vs) : PSs (X.suite a ((a, oe) :: pn)) [st] (suiteW X [st] a cls d) := ⟨fun pins s σ H De J w => pss_wp.run pins s σ H De J (w oe pn hz hf)⟩
theorem catch_read : ∀ {hds : List ExceptHandler} {l : List Clause}, SndH X cs hds l → ∃ ls : List (Value × Option Nat × Suite), Cls1 X hds ls ∧ ∀ {π : Addr} {N0 : Addr → Bool} {H0 : Hp} {N : Addr → Bool} {H2 : Hp} {σ : L2.St} {ρ : Rho} {De : Ends} {c : Str} {fs : List (Str × D)} {C : Addr} {d : Option Addr}, EnvOk X.K X.prog X.w π N0 H0 N H2 σ ρ → c ∈ cs → ClsAt X.K c C → ExD X.K X.prog X.w π N H2 d fs →
    (catchT l c fs ρ).all (OutOk X π N0 H0 De) → wTry X.K (fun _ _ _ _ => False) De ls (.ref C) d σ H2 := by
  intro hds l hk
  induction hk with
  | nil => exact ⟨[], .nil, fun _ _ _ _ z => z⟩
  | @bare c2 C2 mc st p1 p2 hds l at2 hn tab h r ih =>
    obtain ⟨ls, h1, h2⟩ := ih
    refine ⟨(.ref C2, none, suiteW X [st]) :: ls, .bare hn (fun a oe cls d pn hz hf => suite_ok hz hf) h1, ?_⟩
    intro π N0 H0 N H2 σ ρ De c fs C d I hc at_ rd w
    refine ⟨c == c2, exTab_at tab hc (List.mem_singleton.mpr rfl) at_ at2, fun hq a na oe pn hz hf => ?_, fun hq => h2 I hc at_ rd ?_⟩
    · unfold catchT at w
      rw [hq] at w
      exact ⟨_, pss_one ps_wp, h a (a, oe) pn I w⟩
    · unfold catchT at w
      rw [hq] at w
      exact w
  | @named c2 n i C2 mc st p1 p2 hds l at2 hn tab hi hln h r ih =>
    obtain ⟨ls, h1, h2⟩ := ih
    refine ⟨(.ref C2, some i, suiteW X [st]) :: ls, .named hn hi hln (fun a oe cls d pn hz hf => suite_ok hz hf) h1, ?_⟩
    intro π N0 H0 N H2 σ ρ De c fs C d I hc at_ rd w
    refine ⟨c == c2, exTab_at tab hc (List.mem_singleton.mpr rfl) at_ at2, fun hq a na oe pn hz hf => ?_, fun hq => h2 I hc at_ rd ?_⟩
    · unfold catchT at w
      rw [hq] at w
      obtain ⟨hi2, w⟩ := cond_all (show (cond (decide (i < ρ.length)) _ T.fail).all _ from w)
      have e := eq_of_beq hq
      subst e
      refine ⟨_, pss_one ps_wp, h hz hf (σ := σ.set i (some (.ref a))) I.wipeV (List.getElem?_set_self (by rw [I.len]; exact of_decide_eq_true hi2)) ⟨⟨C, rfl, at_⟩, rd⟩ (T.all_mono (fun o ho => ?_) (T.all_bind.mp w))⟩
      cases o with
      | nx ρ2 => exact fun N' H' σ' I' => ho N' H' _ I'.wipeV
      | bk ρ2 => exact fun N' H' σ' I' => ho N' H' _ I'.wipeV
      | ct ρ2 => exact fun N' H' σ' I' => ho N' H' _ I'.wipeV
      | rt dv => exact ho
    · unfold catchT at w
      rw [hq] at w
      exact w
theorem ss_try (hs : X.stack = X.env :: X.outer) (hf : X.env.frame = some X.env.locals) (hN : X.N.Nodup) (hb : SndTr X cs sts m) (hh : SndH X cs (h0 :: hds) l) : SndS X (.Try sts (h0 :: hds) [] [] pos) (sTry cs m l) := fun {π N0 H0 N H σ ρ De} I q => by
  obtain ⟨ls, h1, h2⟩ := catch_read hh
  refine ⟨_, ps_try_nm hs hf hN L2.takes0 (tb := fun W De σ H => ∀ pn xe, Takes (X.tr pn xe) W → PassesOwn (model X.prog X.w) X.A X.env xe → wpSs (X.tr pn xe) sts De σ H) (fun W pn xe tk ps => ⟨fun pins s σ H De J w => pss_wp.run pins s σ H De J (w pn xe tk ps)⟩) h1, fun pn xe tk ps => ?_⟩
  refine hb _ pn xe tk ps I (T.all_mono (fun r hr => ?_) (T.all_bind.mp q))
  cases r with
  | ok o => exact hr
  | ex c fs =>
    obtain ⟨hc, hr⟩ := cond_all (show (cond (cs.contains c) _ T.fail).all _ from hr)
    have hc : c ∈ cs := by simpa using hc
    exact ⟨hc, fun C d H2 e at_ rd => h2 (I.ext e) hc at_ rd hr⟩
/-- the body: one expression -/
theorem str_expr {e : Expr} {p2 : Pos} {mx : Rho → T (Res D)} (h : ∀ (W : WX) (pn : List (Addr × Obj)) (xe : Value → Shared → Prop), Takes (X.tr pn xe) W → SndX (X.tr pn xe) W e mx) (hsw : swapsWith e none p2.line X.env = pure false := by rfl) : SndTr X cs [.Expr e p2] (sExprX mx) := fun W pn xe tk ps {π N0 H0 N H σ ρ De} I q =>
  ⟨_, pss_one (ps_expr (X := X.tr pn xe) pe_wp hsw), h W pn xe tk I (T.all_mono (ResP.imp (fun d hd => by intro v H2 e2 r; exact hd _ _ _ (I.ext e2)) fun _ _ z => z.2) (T.all_bindX q))⟩
end
end Pd
namespace Pd
open PySem L2 PySem.Spec PyProof.Rows
abbrev cxV (P : Program) (w : World) (K : PySem.W.Frag) (mg : Str → Option Value) (base : Heap) (Nm : List Str) (qual : Str) (scope : Scope) (f : Addr) (cdv : Value) (A : Around) (outer : List Env) (s : Shared) (H : Hp) (E : XK) : Cx :=
  { (cxOf CX0 P w K mg base Nm qual scope f cdv A outer s H E) with calm := false }
theorem start_v {P : Program} {w : World} {K : PySem.W.Frag} {mg : Str → Option Value} {base : Heap} {N ps : List Str} {qual : Str} {scope : Scope} {f : Addr} {cd : Value} {A : Around} {outer : List Env} {s s1 : Shared} {H : Hp} {E : XK} {us : List Value} {vs : List V}
    (S : FnScope N ps scope) (e0 : Env0 P w K mg base A outer s H) (hl : vs.length = ps.length) (r : Vals vs us)
    (x : InCallC s s.heap.objs.size (bindL (envOfC qual scope s.heap.objs.size f cd).kindOf (ps.zip us) fun _ => none) (cellsFrom (s.heap.objs.size + 1) scope.names []) (bindC (envOfC qual scope s.heap.objs.size f cd).kindOf (ps.zip us) fun _ => none) s1) :
    L2.Inv (cxV P w K mg base N qual scope f cd A outer s H E) [] (L2.start N vs) H s1 := by
  have I := inv_start (CX := CX0) (E := E) (A := { A with handled := none }) S rfl ⟨e0.frames, e0.mod, e0.bs, e0.bsz, e0.funs, e0.frf, e0.hok, e0.bare⟩ hl r x
  exact ⟨⟨I.ok.mod, I.ok.kind, I.ok.glob, I.ok.blt, I.ok.above, I.ok.inj, I.ok.has, I.ok.cab, fun z => Bool.noConfusion (show false = true from z), I.ok.frames, I.ok.stk, I.ok.exf, I.ok.bs, I.ok.bsz, I.ok.noex, I.ok.exfs, I.ok.funs, I.ok.frf⟩,
    I.os, I.bare, I.base, I.loc, I.cell, I.free, I.freeC, I.pin, I.hok, I.len⟩
theorem RoomV.deeper {h : Option Value} {k : Nat} {A : Around} (r : RoomV h (k + 1) A) (env : Env) : RoomV h k (A.deeper env) := ⟨r.hd, by have := r.dp; show A.depth + 1 + 3 * k + 5 < _; omega, by have := r.un; show A.units + 3 + 16 * k + 200 < _; omega⟩
section
variable {P : Program} {w : World} {K : PySem.W.Frag} {mg : Str → Option Value} {base : Heap}
theorem fnV_ok {h : Option Value} {x qual : Str} {st : Stmt} {f : Addr} {fd : FuncData} {Nm ps : List Str} {k n p : Nat} {m : Rho → T Out} {G : List D → T D} (F : Fun K x qual st f fd) (S : FnScope Nm ps (defScope st)) (hn : Nm.length = n) (hp : ps.length = p) (hG : G = runB n m)
    (hb : ∀ (cdv : Value) (A : Around) (outer : List Env) (s : Shared) (H : Hp) (E : XK), RoomV h k (A.deeper (envOfC qual (defScope st) s.heap.objs.size f cdv)) → SndB (cxV P w K mg base Nm qual (defScope st) f cdv A outer s H E).nox (defBody st) m) :
    FnV h P w K mg base (k + 1) f fd ps (spD K P w p G) := by
  subst hn hp hG
  obtain ⟨oc, od, kV, doc, pm, an, cdv, ct, osl, rfl, lk, hcd⟩ := F.ex
  refine ⟨fun zs Hx Qx Ex q => ?_, fun A out s H as us vs Q E hr e0 hbd r hsp => ?_⟩
  · obtain ⟨π, N, ds, hn, r, hl, _⟩ := q
    exact hl
  have hK : K.In s.heap := e0.mod.kin.keeps fun b o e => (e0.bs b o e).1
  have hnl : s.heap.NoLimit := e0.mod.nolimit.keeps fun b o e => (e0.bs b o e).1
  have hkd : ∀ y ∈ ps.zip us, (defScope st).names.lookup y.1 = some .local ∨ ((defScope st).names.lookup y.1 = some .cell ∧ ((cellsFrom (s.heap.objs.size + 1) (defScope st).names []).lookup y.1).isSome = true) := fun ⟨n, v⟩ hy => by
    rcases S.par n (List.of_mem_zip hy).1 with q | q
    · exact .inl q
    · exact .inr ⟨q, PySem.W.cellsFrom_some _ _ _ (.inl q)⟩
  obtain ⟨π, N, ds, hn, rl, hl, hall⟩ := hsp
  refine codeAny_call_function (by have := hr.dp; omega) (hK _ _ lk) rfl S.co S.gen rfl (PySem.W.codeRec_of hK hcd) (hbd _ _ _ _ (wpAny_newFunctionEnv_cells S.kind hkd fun env he s1 x => ?_))
  subst he
  refine ⟨hnl.keeps x.toInCall.keep, codeAny_func ?_⟩
  obtain ⟨t, ht, hq⟩ := hb cdv A out s H E (hr.deeper _) (De := { nx := fun _ H2 => Q .non H2, rt := Q }) (env_start hn rl) (T.all_mono (fun o ho => by
    cases o with
    | nx ρ => exact fun N2 H2 σ2 I => ho .non H2 ⟨I.ex, I.hn.pot⟩ .non
    | rt d => exact fun v H2 e r => ho v H2 e r
    | bk ρ => exact False.elim ho
    | ct ρ => exact False.elim ho) (T.all_bind.mp hall))
  refine wpAny_mono (ht.nox.run [] s1 (L2.start Nm vs) H _ (start_v S e0 hl r x) hq) (fun fl s2 hs => ?_) fun _ _ z => z
  cases fl with
  | ret u =>
    obtain ⟨v, σ2, H2, J, rv, q⟩ := hs
    exact ⟨v, H2, J.os, J.bare, J.base, J.hok, rv, q⟩
  | next =>
    obtain ⟨σ2, H2, J, q⟩ := hs
    exact ⟨V.non, H2, J.os, J.bare, J.base, J.hok, rfl, q⟩
  | brk =>
    obtain ⟨_, _, _, q⟩ := hs
    exact q.elim
  | cont =>
    obtain ⟨_, _, _, q⟩ := hs
    exact q.elim
end
end Pd
namespace Pd
open PySem L2 PySem.Spec PyProof.Rows
section
variable (P : Program) (w : World) (K : PySem.W.Frag) (mg : Str → Option Value) (base : Heap)
def PmX (x : Str) (k n : Nat) (ps : List Str) (F : List D → T (Res D)) : Prop := ∃ (a : Addr) (fd : FuncData), mg x = some (.ref a) ∧ PySem.W.keepIn K (.ref a) = true ∧ FnOk P w K mg base (L2.CX P w) k a fd ps (spX K P w n F) ∧ Binds K fd ps []
def PmXC (c : Str) (k n : Nat) (dds : List D) (F : List D → T (Res (List (Str × D)))) : Prop := ∃ (C a : Addr) (fd : FuncData) (ps : List Str) (dvs : List V) (dv : List Value), Mk K C a ∧ ClsAt K c C ∧ mg c = some (.ref C) ∧ FnOk P w K mg base (L2.CX P w) k a fd ps (spIX K P w c (n + dvs.length) F) ∧ Binds K fd ps dv ∧ Vals dvs dv ∧ ∀ π H, RvL K P w π H dvs dds
def PmXCK (c : Str) (k n : Nat) (ks : List Str) (perm : List Nat) (F : List D → T (Res (List (Str × D)))) : Prop := ∃ (C a : Addr) (fd : FuncData) (ps : List Str), Mk K C a ∧ ClsAt K c C ∧ mg c = some (.ref C) ∧ FnOk P w K mg base (L2.CX P w) k a fd ps (spIX K P w c n F) ∧ KBind1 K fd ps ks perm
/-- an exception's class: made by its `__init__` -/
def PmExc (c : Str) (fl : List Str) (k : Nat) : Prop := ∃ (B newId initId : String) (bmB : List Value) (C fI : Addr) (fd : FuncData) (ps : List Str), ExM K B newId initId bmB C ∧ ClsAt K c C ∧ mg c = some (.ref C) ∧ PySem.W.findIn K (.ref C) "__init__" = some (some (.ref fI)) ∧ PySem.W.typeIn K (.ref fI) = some (.type "function") ∧ FnOk P w K mg base CX0 k fI fd ps (spE C fl) ∧ Binds K fd ps []
/-- .. looked at in a suite -/
def PmI (c : Str) (fl : List Str) : Prop := ∃ C : Addr, ClsAt K c C ∧ mg c = some (.ref C) ∧ ExI K C ∧ ∀ f ∈ fl, PySem.W.findIn K (.ref C) f = some none
/-- an instance's text by its own method, while whatever is handled -/
def TxA (k : Nat) (R : D → Option Str) : Prop := ∀ (c : Str) (fs : List (Str × D)) (t : Str), R (.ins c fs) = some t → ∃ (C f : Addr) (fd : FuncData) (ps : List Str) (F : List D → T D), ClsAt K c C ∧ OwnTxt K C "__repr__" f ∧ (∀ h, FnV h P w K mg base k f fd ps (spD K P w 1 F)) ∧ Binds K fd ps [] ∧ F [.ins c fs] = .ret (.str t)
end
section
variable {X : Cx} {W : WX} {E : XK} {e : Expr} {es : List Expr} {ms : Rho → T (List D)} {pos p : Pos} {k n : Nat} {ps ks fl : List Str} {x c : Str} {perm : List Nat} {kws : List Keyword}
theorem sx_callP {F : List D → T (Res D)} (tk : Takes X W) (h : PmX X.prog X.w X.K X.mg X.base x k n ps F) (hr : Room k X.A) (ha : SndA X (e :: es) ms) (hg : Gl X x := by rfl) (hdb : (x == ("__debug__" : Str)) = false := by decide) (he : starEach (e :: es) X.env = (false, eval e X.env) :: starEach es X.env := by rfl)
    (hpl : (backTo pos (starEach es X.env)).any (·.1) = false := by rfl) : SndX X W (.Call (.Name x p) (e :: es) [] pos) (eCallX n F ms) := let ⟨_, _, hm, hk, G, B⟩ := h; sx_call tk G hr hm hk B ha hg hdb he hpl
theorem sx_makePK {F : List D → T (Res (List (Str × D)))} (tk : Takes X W) (h : PmXCK X.prog X.w X.K X.mg X.base c k n ks perm F) (hr : Room (k + 1) X.A) (hp : perm.length = n) (hkn : ks.length = n) (ha : SndK X kws ms) (hg : Gl X c := by rfl) (hall : (backToKw pos (keywordEach kws X.env)).all (·.1.isSome) = true := by rfl) (hks : (backToKw pos (keywordEach kws X.env)).filterMap (·.1) = ks := by rfl)
    (hdb : (c == ("__debug__" : Str)) = false := by decide) (hpl : ((backTo pos (starEach [] X.env)).any (·.1) || (backToKw pos (keywordEach kws X.env)).any (·.1.isNone)) = false := by rfl) : SndX X W (.Call (.Name c p) [] kws pos) (eMakeKX c n perm F ms) := let ⟨_, _, _, _, M, at_, hm, G, B⟩ := h; sx_makeK tk M G hr hm at_ B hp hkn ha hg hall hks hdb hpl
theorem ssx_raiseP {p2 : Pos} (hc : X.calm = true) (tk : Takes X (wcon E)) (h : PmExc X.prog X.w X.K X.mg X.base c fl k) (hr : Room (k + 1) X.A) (ha : SndA X (e :: es) ms) (hg : Gl X c := by rfl) (hdb : (c == ("__debug__" : Str)) = false := by decide) (he : starEach (e :: es) X.env = (false, eval e X.env) :: starEach es X.env := by rfl)
    (hpl : (backTo pos (starEach es X.env)).any (·.1) = false := by rfl) : SndSX X E (.Raise (some (.Call (.Name c p) (e :: es) [] pos)) none p2) (sRaise c fl ms) := let ⟨_, _, _, _, _, _, _, _, T1, at_, hm, iC, tI, F1, B⟩ := h; ssx_raise hc tk T1 at_ iC tI F1 hr B hm ha hg hdb he hpl
end
section
variable {X : Cx} {c : Str} {i : Nat} {e : Expr} {m : MC} {pos p : Pos} {n f : Str} {fl : List Str}
theorem sc_fldP (h : PmI X.K X.mg c fl) (hf : f ∈ fl) (hN : X.N[i]? = some n := by rfl) (hv : Vis X.env.scope n := by first | exact Or.inl rfl | exact Or.inr (Or.inl rfl) | exact Or.inr (Or.inr rfl)) (hd : (n == ("__debug__" : Str)) = false := by decide) (hcd : (n == ("__classdict__" : Str)) = false := by decide)
    (hb : attributeBase (.Name n p) f X.env (eval (.Name n p) X.env) = eval (.Name n p) X.env := by rfl) : SndC X c i (.Attribute (.Name n p) f pos) (cFld f) := let ⟨_, at_, _, T1, no⟩ := h; sc_fld at_ T1 (no f hf) hN hv hd hcd hb
theorem sc_repr {k : Nat} {R : D → Option Str} (hR : TxA X.prog X.w X.K X.mg X.base k R) (hgd : X.A.guards = some []) (hr : Room (k + 8) X.A) (hm : X.mg "repr" = none) (h : SndC X c i e m) {p2 : Pos} (hg : Gl X "repr" := by rfl)
    (he : starEach [e] X.env = (false, eval e X.env) :: starEach [] X.env := by rfl) (hpl : (backTo pos (starEach [] X.env)).any (·.1) = false := by rfl) : SndC X c i (.Call (.Name "repr" p2) [e] [] pos) (cCa (bReprR R) m) :=
  sc_callB (fun a q pn => cs_reprV (X := X.suite a (q :: pn)) (fun c fs t ht => let ⟨C, f, fd, ps, F, a1, a2, a3, a4, a5⟩ := hR c fs t ht; ⟨C, f, fd, ps, F, a1, a2, a3 _, a4, a5⟩) hgd ⟨rfl, hr.dp, hr.un⟩) h hm (by decide +kernel) hg (by decide) (by decide) he hpl
end
theorem exTab_sub {K : PySem.W.Frag} {cs ds : List Str} (h : exTab K cs ds = true) {c2 : Str} (hc : c2 ∈ ds) : exTab K cs [c2] = true := List.all_eq_true.mpr fun c h1 => by
  rw [List.all_cons, List.all_nil, Bool.and_true]
  exact List.all_eq_true.mp (List.all_eq_true.mp h c h1) c2 hc
section
variable {X : Cx} {cs ds fl : List Str} {c n : Str} {i : Nat} {m : List (Str × D) → Rho → T Out} {mo : Rho → T Out} {st : Stmt} {p1 p2 : Pos} {hds : List ExceptHandler} {l : List Clause}
theorem sh_named (h : PmI X.K X.mg c fl) (tab : exTab X.K cs ds = true) (hd : c ∈ ds) (hs : SndCS X c i st m) (r : SndH X cs hds l) (hi : X.N[i]? = some n := by rfl) (hln : X.env.kindOf n = some .local := by rfl) (hg : Gl X c := by rfl) (hdb : (c == ("__debug__" : Str)) = false := by decide) :
    SndH X cs (.ExceptHandler (some (.Name c p1)) (some n) [st] p2 :: hds) ((c, some i, m) :: l) := let ⟨_, at_, hm, _, _⟩ := h; .named at_ ⟨hg, hdb, .inl hm⟩ (exTab_sub tab hd) hi hln hs r
end
end Pd
namespace Pd
open PySem L2 PySem.Spec PyProof.Rows
section
variable {X : Cx} {e : Expr} {te : TE} {pos : Pos}
/-- a new thing, locked at once -/
theorem pe_frz (h : PE X e te) : PE X e (fun σ H Q => te σ H fun v H1 => ∃ (p : Addr) (u : HO), v = .ref p ∧ H1 p = some u ∧ Mut (some u) ∧ ∀ od, Q v (upd H1 p (.frz od u))) := ⟨fun pins s σ H Q I q => thn (h.run pins s σ H _ I q) fun u s1 ⟨v, H1, I1, r, p, o, ev, hp, mu, q2⟩ => by
  obtain ⟨od, J⟩ := I1.lock hp mu
  exact ⟨v, _, J, r, q2 od⟩⟩
theorem s_dik0 : Snd X (.Dict [] [] pos) (eC (.dik [])) := fun {π N0 H0 N H σ ρ Q} I h => ⟨_, pe_frz pe_dnewK, fun p hp => ⟨p, _, rfl, upd_same, True.intro, fun od => by
  rw [upd_upd]
  have Np := I.hn.new hp
  exact h (.ref p) _ (Ex.new I.hn.pot hp) (.dik (by rw [hide_in Np]; exact upd_same) (I.hn.pot.ne hp))⟩⟩
theorem dik_disp {trs : List (TE × TE)} {keys : List (Option Expr)} {values : List Expr} {kvs : List (Int × Int)} (h : PPs X pos keys values trs) (hall : keys.all (·.isSome) = true) (hl : keys.length = values.length) (h0 : keys ≠ []) (h15 : keys.length ≤ 15) (hk : kvs.length ≤ 15)
    (hm : mergeK [] (kvs.map fun p => (Sum.inl p.1, V.int p.2)) = kvs.map fun p => (Sum.inl p.1, V.int p.2)) (hc : ∀ (σ : L2.St) (H : Hp) (Q : List (V × V) → Hp → Prop), Q ((kvs.map fun p => ((Sum.inl p.1 : Key), V.int p.2)).map fun kv => (kV kv.1, kv.2)) H → tPairs trs σ H Q) : Snd X (.Dict keys values pos) (eC (.dik kvs)) := fun {π N0 H0 N H σ ρ Q} I q =>
  ⟨_, pe_frz (pe_disp h hall hl h0 h15), fun p hp => hc _ _ _ ⟨upd_same, _, rfl, by rw [List.length_map]; exact hk, p, _, rfl, upd_same, True.intro, fun od => by
    rw [upd_upd, upd_upd, hm]
    have Np := I.hn.new hp
    exact q (.ref p) _ (Ex.new I.hn.pot hp) (.dik (by rw [hide_in Np]; exact upd_same) (I.hn.pot.ne hp))⟩⟩
end
def exMB (K : PySem.W.Frag) (C : Addr) (B : String) : Bool := PySem.W.excInitIn K C [.type B, .type "Exception", .type "BaseException", .type "object"] (B ++ ".__new__") && PySem.W.excOver K C [.type B, .type "Exception", .type "BaseException", .type "object"] && PySem.W.hasDictIn K C &&
  decide (PySem.W.findIn K (.ref C) "__setattr__" = some (some (.builtin "object.__setattr__"))) && decide (PySem.W.subIn K (.ref C) (.type "BaseException") = some true) && decide (PySem.W.typeIn K (.ref C) = some (.type "type")) && PySem.W.keepIn K (.ref C)
theorem exM_parts {K : PySem.W.Frag} {C : Addr} {B : String} (h : exMB K C B = true) : PySem.W.excInitIn K C [.type B, .type "Exception", .type "BaseException", .type "object"] (B ++ ".__new__") = true ∧ PySem.W.excOver K C [.type B, .type "Exception", .type "BaseException", .type "object"] = true ∧ PySem.W.hasDictIn K C = true ∧
    PySem.W.findIn K (.ref C) "__setattr__" = some (some (.builtin "object.__setattr__")) ∧ PySem.W.subIn K (.ref C) (.type "BaseException") = some true ∧ PySem.W.typeIn K (.ref C) = some (.type "type") ∧ PySem.W.keepIn K (.ref C) = true := by
  unfold exMB at h
  simp only [Bool.and_eq_true, decide_eq_true_eq] at h
  obtain ⟨⟨⟨⟨⟨⟨h1, h2⟩, h3⟩, h4⟩, h5⟩, h6⟩, h7⟩ := h
  exact ⟨h1, h2, h3, h4, h5, h6, h7⟩
theorem exM_VE {K : PySem.W.Frag} {C : Addr} (h : exMB K C "ValueError" = true) : ExM K "ValueError" "ValueError.__new__" "ValueError.__init__" [.type "ValueError", .type "Exception", .type "BaseException", .type "object"] C :=
  let ⟨h1, h2, h3, h4, h5, h6, h7⟩ := exM_parts h; ⟨PySem.F.excBase_ValueError, PySem.F.store_ValueError, h1, h2, h3, h4, h5, h6, h7⟩
section
variable {P : Program} {w : World} {K : PySem.W.Frag} {mg : Str → Option Value} {base : Heap} {x qual : Str} {st : Stmt} {f C : Addr} {fd : FuncData} {B newId initId : String} {bmB : List Value}
theorem initE1 {s0 s1 g : Str} (T : ExM K B newId initId bmB C) (no : PySem.W.findIn K (.ref C) g = some none) (F : Fun K x qual st f fd) (S : FnScope [s0, s1] [s0, s1] (defScope st))
    (hd : ∀ cdv A outer s H E, PSs (cxOf CX0 P w K mg base [s0, s1] qual (defScope st) f cdv A outer s H E).nox (defBody st) (tEx K g (fun σ H Q => ∃ v, σ[0]? = some (some v) ∧ Q v H) fun σ H Q => ∃ v, σ[1]? = some (some v) ∧ Q v H)) : FnOk P w K mg base CX0 1 f fd [s0, s1] (spE C [g]) := by
  refine F.ok (k := 0) S (fun vs H Q E h => ?_) (fun cdv A outer s H vs Q E hr h => ⟨_, hd cdv A outer s H E, ?_⟩)
  · obtain ⟨a, args, rfl, hl, _⟩ := h
    rw [List.length_cons, hl]
    rfl
  · obtain ⟨a, args, rfl, hl, ha, h0, h1⟩ := h
    match args, hl with
    | [y], _ => exact ⟨y, rfl, .ref a, rfl, a, C, _, _, _, _, rfl, T, no, .inl ⟨ha, fun d nd ne => h1 (fun z => by cases z) d _ nd ne upd_same (by rw [upd_ne ne]; exact upd_same) fun b b1 b2 => by rw [upd_ne b1, upd_ne b2]⟩⟩
end
/-- an instance's text, its def asking nothing of what is handled -/
theorem txA_one {P : Program} {w : World} {K : PySem.W.Frag} {mg : Str → Option Value} {base : Heap} {k : Nat} {c : Str} {C f : Addr} {fd : FuncData} {ps : List Str} {F : List D → T D} (at_ : ClsAt K c C) (O : OwnTxt K C "__repr__" f) (G : ∀ h, FnV h P w K mg base k f fd ps (spD K P w 1 F)) (B : Binds K fd ps []) : TxA P w K mg base k (rOne c F) := fun c2 fs t h => by
  unfold rOne at h
  dsimp only at h
  cases e : c2 == c with
  | false => rw [e] at h; cases h
  | true =>
    rw [e] at h
    have e := eq_of_beq e
    subst e
    simp only [cond] at h
    split at h
    · rename_i x q
      cases h
      exact ⟨C, f, fd, ps, F, at_, O, G, B, q⟩
    · cases h
end Pd
namespace Pd
open PySem L2 PySem.Spec PyProof.Rows
section
variable {ρ : Rho} {m k m1 m2 : Rho → T Out} {a b c d4 : Rho → T D} {t : Rho → T Bool} {x y z u : D} {o : T Out} {f : List D → T D} {i n : Nat} {ds : List D}
theorem v_run (hρ : ds.map Ent.val ++ List.replicate (n - ds.length) Ent.un = ρ) (h : m ρ = .ret (.rt x)) : runB n m ds = .ret x := by
  unfold runB
  rw [hρ, h]
  rfl
theorem v_run0 {ρ' : Rho} (hρ : ds.map Ent.val ++ List.replicate (n - ds.length) Ent.un = ρ) (h : m ρ = .ret (.nx ρ')) : runB n m ds = .ret .non := by
  unfold runB
  rw [hρ, h]
  rfl
theorem v_ex (h : a ρ = .ret x) (h2 : k ρ = o) : bSeq (sExpr a) k ρ = o := by
  unfold bSeq sExpr
  rw [h]
  exact h2
theorem v_set (h : a ρ = .ret x) (h2 : k (ρ.set i (.val x)) = o) : bSeq (sSet i a) k ρ = o := by
  unfold bSeq sSet
  rw [h]
  exact h2
theorem v_nx {ρ' : Rho} (h : m ρ = .ret (.nx ρ')) (h2 : k ρ' = o) : bSeq m k ρ = o := by
  unfold bSeq
  rw [h]
  exact h2
theorem v_iff (h : t ρ = .ret false) (h2 : k ρ = o) : bSeq (sIf t m1 bNil) k ρ = o := by
  unfold bSeq sIf
  rw [h]
  exact h2
theorem v_ift (h : t ρ = .ret true) (h1 : m1 ρ = .ret (.rt x)) : bSeq (sIf t m1 m2) k ρ = .ret (.rt x) := by
  unfold bSeq sIf
  rw [h]
  show (m1 ρ).bind _ = _
  rw [h1]
  rfl
theorem v_ret (h : a ρ = .ret x) : sRet a ρ = .ret (.rt x) := by
  unfold sRet
  rw [h]
  rfl
theorem v_call1 (ha : a ρ = .ret x) (h : f [x] = .ret z) : eCall 1 f (aCons a aNil) ρ = .ret z := by
  unfold eCall aCons aNil
  rw [ha]
  exact h
theorem v_call2 (ha : a ρ = .ret x) (hb : b ρ = .ret y) (h : f [x, y] = .ret z) : eCall 2 f (aCons a (aCons b aNil)) ρ = .ret z := by
  simp only [eCall, aCons, aNil, ha, hb, T.bind, List.length_cons, List.length_nil, BEq.rfl, cond, h]
theorem v_call3 (ha : a ρ = .ret x) (hb : b ρ = .ret y) (hc : c ρ = .ret u) (h : f [x, y, u] = .ret z) : eCall 3 f (aCons a (aCons b (aCons c aNil))) ρ = .ret z := by
  simp only [eCall, aCons, aNil, ha, hb, hc, T.bind, List.length_cons, List.length_nil, BEq.rfl, cond, h]
theorem v_bin {g : D → D → T D} (ha : a ρ = .ret x) (hb : b ρ = .ret y) (h : g x y = .ret z) : eBin g a b ρ = .ret z := by
  unfold eBin
  rw [ha]
  show (b ρ).bind _ = _
  rw [hb]
  exact h
theorem v_test {p : Bool} (h : a ρ = .ret (.bl p)) : eTest a ρ = .ret p := by
  unfold eTest
  rw [h]
  rfl
theorem v_not {p : Bool} (h : t ρ = .ret p) : tNot' t ρ = .ret (!p) := by
  unfold tNot'
  rw [h]
  rfl
theorem v_or {t2 : Rho → T Bool} (h : t ρ = .ret false) (h2 : t2 ρ = .ret false) : tOr' t t2 ρ = .ret false := by
  unfold tOr'
  rw [h]
  exact h2
theorem v_ca {f : List D → T D} (ha : a ρ = .ret x) (h : f [x] = .ret z) : eCa f (aCons a aNil) ρ = .ret z := by
  unfold eCa aCons aNil
  rw [ha]
  exact h
theorem v_par {j : Nat} (ha : a ρ = .ret x) (hb : b ρ = .ret y) : sPar i j a b ρ = .ret (.nx ((ρ.set i (.val x)).set j (.val y))) := by
  unfold sPar
  rw [ha]
  show (b ρ).bind _ = _
  rw [hb]
  rfl
theorem v_own {ml : Rho → T (List D)} (h : ml ρ = .ret ds) : sOwn i ml ρ = .ret (.nx (ρ.set i (.own ds))) := by
  unfold sOwn
  rw [h]
  rfl
theorem v_L {ml : Rho → T (List D)} {ds : List D} (h : ml ρ = .ret ds) : eL ml ρ = .ret (.lst ds) := by
  unfold eL
  rw [h]
  rfl
end
section
variable {ρ : Rho} {m k m1 m2 : Rho → T Out} {a b c : Rho → T D} {t : Rho → T Bool} {P : Out → Prop} {R : D → Prop} {i n : Nat} {ds : List D}
theorem A.run (hρ : ds.map Ent.val ++ List.replicate (n - ds.length) Ent.un = ρ) (h : (m ρ).all fun o => ∃ d, o = .rt d ∧ R d) : (runB n m ds).all R := by
  unfold runB
  rw [hρ]
  refine T.all_bind.mpr (T.all_mono (fun o ho => ?_) h)
  obtain ⟨d, rfl, r⟩ := ho
  exact r
theorem A.ex (h : (a ρ).all fun _ => (k ρ).all P) : (bSeq (sExpr a) k ρ).all P :=
  T.all_bind.mpr (T.all_bind.mpr (T.all_mono (fun _ hx => hx) h))
theorem A.set (h : (a ρ).all fun x => (k (ρ.set i (.val x))).all P) : (bSeq (sSet i a) k ρ).all P :=
  T.all_bind.mpr (T.all_bind.mpr (T.all_mono (fun _ hx => hx) h))
theorem A.iff (h : (t ρ).all fun b => b = false ∧ (k ρ).all P) : (bSeq (sIf t m1 bNil) k ρ).all P :=
  T.all_bind.mpr (T.all_bind.mpr (T.all_mono (fun b hb => by
    obtain ⟨rfl, q⟩ := hb
    exact q) h))
theorem A.ret (h : (a ρ).all fun d => P (.rt d)) : (sRet a ρ).all P := T.all_bind.mpr h
end
end Pd
namespace Pd
open PySem L2 PySem.Spec PyProof.Rows
abbrev topR (i : Nat) : Stmt := PySem.Challenge.pw_aheadsums_k12_whole_tables_put_together.main.body.getD i (.Pass ⟨0, 0, 0, 0⟩)
theorem op_fdivG {X : Cx} : OpR X (binaryOp .FloorDiv) (rI (fun i j => j ≠ 0 ∧ Builtin.divisionGoesByPylong i j = false) fun i j => .int (i.fdiv j)) := L2.opI fun _ _ _ _ _ _ _ hc q => floordiv_int hc.1 q (.inl hc.2)
/-- what is divided by -/
def ratioBy (t b : Int) : Int := if b < 0 then -((Nat.gcd t.natAbs b.natAbs : Nat) : Int) else ((Nat.gcd t.natAbs b.natAbs : Nat) : Int)
def f_Ratio_init : List D → T (List (Str × D))
  | [.int t, .int b] => cond (decide (b ≠ 0) && !Builtin.divisionGoesByPylong t (ratioBy t b) && !Builtin.divisionGoesByPylong b (ratioBy t b)) (.ret [("_top", .int (t.fdiv (ratioBy t b))), ("_bottom", .int (b.fdiv (ratioBy t b)))]) .fail
  | _ => .fail
theorem iteT' {b : Bool} {p q : Prop} (h : b = true) (x : p) : if b = true then p else q := by rw [if_pos h]; exact x
theorem iteF' {b : Bool} {p q : Prop} (h : b = false) (x : q) : if b = true then p else q := by rw [if_neg (by rw [h]; exact Bool.false_ne_true)]; exact x
section
variable {P : Program} {w : World} {K : PySem.W.Frag} {mg : Str → Option Value} {base : Heap}
abbrev s_Rinit : Stmt := inClass (topR 25) 0
theorem sc_Rinit : FnScope ["self", "top", "bottom", "common"] ["self", "top", "bottom"] (defScope s_Rinit) := ⟨rfl, rfl, rfl, by decide +kernel, rfl, by decide +kernel, by decide +kernel⟩
theorem g_Rinit {a_i a_int : Addr} {d_i d_int : FuncData} {C : Addr} {dvs : List V} (F : FunD K "__init__" "Ratio.__init__" (defArgs s_Rinit) (defBody s_Rinit) (defScope s_Rinit) dvs [] a_i d_i) (cl : Cls K C) (at_ : ClsAt K "Ratio" C) (nt : NoAttr K C "_top") (nb : NoAttr K C "_bottom") (mi : mg "is_integer" = some (.ref a_int)) (ki : PySem.W.keepIn K (.ref a_int) = true)
    (GI : FnOk P w K mg base CX0 1 a_int d_int ["value"] (spD K P w 1 (fun ds => match ds with | [.int _] => .ret (.bl true) | _ => .fail))) (BI : Binds K d_int ["value"] []) (mG : mg "gcd" = some (.builtin "math.gcd")) : FnOk P w K mg base CX0 2 a_i d_i ["self", "top", "bottom"] (spI K P w "Ratio" 2 f_Ratio_init) := by
  have nd := sc_Rinit.nd
  refine F.ok (k := 1) sc_Rinit (fun vs H Q E h => ?_) (fun cdv A outer s H vs Q E hr h => ?_)
  · obtain ⟨π, N, x, dx, C, args, ds, rfl, hl, _⟩ := h
    rw [List.length_cons, hl]; rfl
  · suffices z : ∃ t, PSs (cxOf CX0 P w K mg base ["self", "top", "bottom", "common"] "Ratio.__init__" (defScope s_Rinit) a_i cdv A outer s H E).nox (defBody s_Rinit) t ∧ t { nx := fun _ H' => Q .non H', rt := Q } (start ["self", "top", "bottom", "common"] vs) H by
      obtain ⟨t, a, b⟩ := z
      exact ⟨t, a.nox, b⟩
    refine ⟨_, pss_cons (ps_if (pt_not (pt_val (pe_call GI (hr.mono (by decide)) rfl mi ki BI .nil pass0 (pa_cons (pv 1) pa_nil)) (by intro _; rfl))) pss_wp pss_nil)
      (pss_cons (ps_if (PW.pt (pw_or (pt_not (pt_val (pe_call GI (hr.mono (by decide)) rfl mi ki BI .nil pass0 (pa_cons (pv 2) pa_nil)) (by intro _; rfl))) (pw_or1 (pt_cmpR (op_eqD hr.units) (pv 2) pe_int (nomark _))))) pss_wp pss_nil)
      (pss_cons (ps_set (i := 3) nd rfl (.inl rfl) (pe_callBfun cr_gcd rfl mG (pa_cons (pv 1) (pa_cons (pv 2) pa_nil))))
      (pss_cons (ps_if (pt_cmpR op_lt (pv 2) pe_int (nomark _)) (pss_one (ps_set (i := 3) nd rfl (.inl rfl) (pe_un un_neg (pv 3)))) pss_nil)
      (pss_cons (ps_fld (pv 0) (pe_op op_fdivG (pv 1) (pv 3)) rfl)
      (pss_one (ps_fld (pv 0) (pe_op op_fdivG (pv 2) (pv 3)) rfl)))))), ?_⟩
    obtain ⟨π, N, x, dx, C2, args, ds, rfl, hl, hn, Nx, hx, hc, ra, hall⟩ := h
    have ec := at_.one hc
    subst ec
    unfold f_Ratio_init at hall
    split at hall
    · rename_i t b
      cases ra with
      | cons r1 ra =>
      cases ra with
      | cons r2 ra =>
      cases ra
      cases r1
      cases r2
      obtain ⟨hb, hall⟩ := cond_all hall
      simp only [Bool.and_eq_true, Bool.not_eq_true', decide_eq_true_eq] at hb
      obtain ⟨⟨b0, p1⟩, p2⟩ := hb
      have xpi : x ≠ π := N_ne hn Nx
      have ask : ∀ (i : Int) (H1 : Hp) (Q' : VK), Ex π H H1 → (∀ H2, Ex π H H2 → Q' (.bl true) H2) → spD K P w 1 (fun ds => match ds with | [.int _] => .ret (.bl true) | _ => .fail) [V.int i] H1 Q' E0 := fun i H1 Q' e k =>
        ⟨π, N, [.int i], hn.ext e, .cons (.int i) .nil, rfl, fun v H2 e2 r => by rw [r.bool]; exact k H2 (e.trans e2)⟩
      refine ⟨_, rfl, ask t H _ (Ex.refl hn.pot) fun H1 e1 => ⟨true, rfl, iteF' rfl ?_⟩⟩
      refine ⟨_, rfl, ask b H1 _ e1 fun H2 e2 => ⟨true, rfl, iteF' rfl ?_⟩⟩
      refine ⟨_, rfl, .int b, .int 0, .int b, .int 0, rfl, rfl, _, rfl, iteF' (by simp [PyData.eqv, b0]) ?_⟩
      have hx2 : H2 x = some (.ins C2 dx []) := e2.kp x _ xpi hx
      have bt : ¬ (("_top" : Str) = "_bottom") := by decide +kernel
      have fin : ∀ (c : Int), c = ratioBy t b → Q .non (upd (upd H2 x (.ins C2 dx (putF "_top" (.int (t.fdiv c)) []))) x (.ins C2 dx (putF "_bottom" (.int (b.fdiv c)) (putF "_top" (.int (t.fdiv c)) [])))) := fun c ec => by
        subst ec
        refine hall _ [("_top", .int (t.fdiv (ratioBy t b))), ("_bottom", .int (b.fdiv (ratioBy t b)))] (fun a o n1 n2 h => ?_) ?_ ?_ (.cons (.int _) (.cons (.int _) .nil))
        · rw [upd_ne n2, upd_ne n2]
          exact e2.kp a o n1 h
        · obtain ⟨p, q, h, r⟩ := e2.pot
          exact ⟨p, q, by rw [upd_ne xpi.symm, upd_ne xpi.symm]; exact h, r⟩
        · rw [upd_same]
          show some (HO.ins C2 dx (if ("_top" : Str) = "_bottom" then [("_top", V.int (b.fdiv (ratioBy t b)))] else ("_top", V.int (t.fdiv (ratioBy t b))) :: putF "_bottom" (V.int (b.fdiv (ratioBy t b))) [])) = _
          rw [if_neg bt]
          rfl
      have g0 : ratioBy t b ≠ 0 := by
        have : Nat.gcd t.natAbs b.natAbs ≠ 0 := fun z => b0 (Int.natAbs_eq_zero.mp (Nat.eq_zero_of_gcd_eq_zero_right z))
        unfold ratioBy
        split <;> omega
      refine ⟨_, rfl, _, rfl, t, b, rfl, ?_⟩
      refine ⟨_, rfl, _, _, rfl, rfl, _, rfl, ?_⟩
      by_cases c : b < 0
      · refine iteT' (decide_eq_true c) ⟨_, rfl, _, rfl, ?_⟩
        have eg : -((Nat.gcd t.natAbs b.natAbs : Nat) : Int) = ratioBy t b := by unfold ratioBy; rw [if_pos c]
        refine ⟨_, rfl, _, rfl, _, _, rfl, rfl, ⟨by rw [eg]; exact g0, by rw [eg]; exact p1⟩, _, rfl, x, C2, dx, [], rfl, hx2, cl, nt, by decide, ?_⟩
        refine ⟨_, rfl, _, rfl, _, _, rfl, rfl, ⟨by rw [eg]; exact g0, by rw [eg]; exact p2⟩, _, rfl, x, C2, dx, _, rfl, upd_same, cl, nb, (show 1 < 1000 by decide), ?_⟩
        exact fin _ eg
      · refine iteF' (decide_eq_false c) ?_
        have eg : ((Nat.gcd t.natAbs b.natAbs : Nat) : Int) = ratioBy t b := by unfold ratioBy; rw [if_neg c]
        refine ⟨_, rfl, _, rfl, _, _, rfl, rfl, ⟨by rw [eg]; exact g0, by rw [eg]; exact p1⟩, _, rfl, x, C2, dx, [], rfl, hx2, cl, nt, by decide, ?_⟩
        refine ⟨_, rfl, _, rfl, _, _, rfl, rfl, ⟨by rw [eg]; exact g0, by rw [eg]; exact p2⟩, _, rfl, x, C2, dx, _, rfl, upd_same, cl, nb, (show 1 < 1000 by decide), ?_⟩
        exact fin _ eg
    · exact False.elim hall
end
end Pd
namespace Pd
open PySem L2 PySem.Spec PyProof.Rows
/-- what Ratio's methods ask of what stands around them -/
structure RH (P : Program) (w : World) (K : PySem.W.Frag) (mg : Str → Option Value) (base : Heap) (ft : List D → T D) (C a_i a_t : Addr) (d_i d_t : FuncData) : Prop where
  M : Mk K C a_i
  cl : Cls K C
  at_ : ClsAt K "Ratio" C
  nt : NoAttr K C "_top"
  nb : NoAttr K C "_bottom"
  mC : mg "Ratio" = some (.ref C)
  mt : mg "top_and_bottom" = some (.ref a_t)
  kt : PySem.W.keepIn K (.ref a_t) = true
  GI : FnOk P w K mg base CX0 2 a_i d_i ["self", "top", "bottom"] (spI K P w "Ratio" 2 f_Ratio_init)
  BI : Binds K d_i ["self", "top", "bottom"] []
  GT : FnOk P w K mg base CX0 4 a_t d_t ["number"] (spD K P w 1 ft)
  BT : Binds K d_t ["number"] []
def aT : Rho → T D := eUn (attrD "Ratio" "_top") (eVar 0)
def aB : Rho → T D := eUn (attrD "Ratio" "_bottom") (eVar 0)
def mkR (x y : Rho → T D) : Rho → T D := eMake "Ratio" 2 [] f_Ratio_init (aCons x (aCons y aNil))
section
variable {P : Program} {w : World} {K : PySem.W.Frag} {mg : Str → Option Value} {base : Heap} {ft : List D → T D} {C a_i a_t a_f : Addr} {d_i d_t d_f : FuncData}
abbrev s_Rtop : Stmt := inClass (topR 25) 1
theorem sc_Rtop : FnScope ["self"] ["self"] (defScope s_Rtop) := ⟨rfl, rfl, rfl, by decide +kernel, rfl, by decide +kernel, by decide +kernel⟩
def f_Rtop : List D → T D := runB 1 (sRet aT)
theorem g_Rtop (F : Fun K "top" "Ratio.top" s_Rtop a_f d_f) (R : RH P w K mg base ft C a_i a_t d_i d_t) : FnOk P w K mg base CX0 1 a_f d_f ["self"] (spD K P w 1 f_Rtop) :=
  fn_ok (n := 1) (p := 1) (m := sRet aT) (k := 0) F sc_Rtop rfl rfl rfl (fun cdv A outer s H E hr => b_one (ss_ret (s_attr R.at_ R.cl R.nt (sv 0))))
abbrev s_Rbottom : Stmt := inClass (topR 25) 2
theorem sc_Rbottom : FnScope ["self"] ["self"] (defScope s_Rbottom) := ⟨rfl, rfl, rfl, by decide +kernel, rfl, by decide +kernel, by decide +kernel⟩
def f_Rbottom : List D → T D := runB 1 (sRet aB)
theorem g_Rbottom (F : Fun K "bottom" "Ratio.bottom" s_Rbottom a_f d_f) (R : RH P w K mg base ft C a_i a_t d_i d_t) : FnOk P w K mg base CX0 1 a_f d_f ["self"] (spD K P w 1 f_Rbottom) :=
  fn_ok (n := 1) (p := 1) (m := sRet aB) (k := 0) F sc_Rbottom rfl rfl rfl (fun cdv A outer s H E hr => b_one (ss_ret (s_attr R.at_ R.cl R.nb (sv 0))))
abbrev s_Rrepr : Stmt := inClass (topR 25) 19
theorem sc_Rrepr : FnScope ["self"] ["self"] (defScope s_Rrepr) := ⟨rfl, rfl, rfl, by decide +kernel, rfl, by decide +kernel, by decide +kernel⟩
def m_Rrepr : Rho → T Out := sRet (joinT [eC (.str "Ratio("), eFmt aT, eC (.str ", "), eFmt aB, eC (.str ")")] Str.empty)
def f_Rrepr : List D → T D := runB 1 m_Rrepr
theorem g_Rrepr (F : Fun K "__repr__" "Ratio.__repr__" s_Rrepr a_f d_f) (R : RH P w K mg base ft C a_i a_t d_i d_t) : FnOk P w K mg base CX0 1 a_f d_f ["self"] (spD K P w 1 f_Rrepr) :=
  fn_ok (n := 1) (p := 1) (m := m_Rrepr) (k := 0) F sc_Rrepr rfl rfl rfl (fun cdv A outer s H E hr =>
    b_one (ss_ret (s_join (.cons s_str (.cons (s_fmt (s_attr R.at_ R.cl R.nt (sv 0))) (.cons s_str (.cons (s_fmt (s_attr R.at_ R.cl R.nb (sv 0))) (.cons s_str .nil))))))))
end
end Pd
namespace Pd
open PySem L2 PySem.Spec PyProof.Rows
/-- one promise from another: what F says wherever G says something -/
theorem spD_imp {K : PySem.W.Frag} {P : Program} {w : World} {n : Nat} {F G : List D → T D} (h : ∀ ds (R : D → Prop), (G ds).all R → (F ds).all R) : ∀ vs H Q E, spD K P w n G vs H Q E → spD K P w n F vs H Q E := fun vs H Q E q => by
  obtain ⟨π, N, ds, a, b, c, d⟩ := q
  exact ⟨π, N, ds, a, b, c, h _ _ d⟩
section
variable {P : Program} {w : World} {K : PySem.W.Frag} {mg : Str → Option Value} {base : Heap} {C a_f a_int a_num a_need a_p a_q g_p g_q : Addr} {d_f d_int d_num d_need d_p d_q : FuncData}
abbrev s_isInt : Stmt := topR 18
theorem sc_isInt : FnScope ["value"] ["value"] (defScope s_isInt) := ⟨rfl, rfl, rfl, by decide +kernel, rfl, by decide +kernel, by decide +kernel⟩
def m_isInt : Rho → T Out := sRet (eAnd (eUn (isDC ["Ratio"] .int) (eVar 0)) (eNot (eUn (isDC ["Ratio"] .bool) (eVar 0))))
def f_isInt : List D → T D := runB 1 m_isInt
theorem g_isInt (F : Fun K "is_integer" "is_integer" s_isInt a_f d_f) (kn : KnownC K ["Ratio"]) (mi : mg "isinstance" = none) (mn : mg "int" = none) (mb : mg "bool" = none) : FnOk P w K mg base CX0 1 a_f d_f ["value"] (spD K P w 1 f_isInt) :=
  fn_ok (n := 1) (p := 1) (m := m_isInt) (k := 0) F sc_isInt rfl rfl rfl (fun cdv A outer s H E hr =>
    b_one (ss_ret (s_and (s_isinstC ["Ratio"] (k := .int) kn mi mn (by decide +kernel) (sv 0)) (s_one (s_not (s_isinstC ["Ratio"] (k := .bool) kn mi mb (by decide +kernel) (sv 0)))))))
abbrev s_isNum : Stmt := topR 26
theorem sc_isNum : FnScope ["value"] ["value"] (defScope s_isNum) := ⟨rfl, rfl, rfl, by decide +kernel, rfl, by decide +kernel, by decide +kernel⟩
def m_isNum : Rho → T Out := sRet (eOr (eCall 1 f_isInt (aCons (eVar 0) aNil)) (eUn (isOC ["Ratio"] "Ratio") (eVar 0)))
def f_isNum : List D → T D := runB 1 m_isNum
theorem g_isNum (F : Fun K "is_number" "is_number" s_isNum a_f d_f) (kn : KnownC K ["Ratio"]) (at0 : ClsAt K "Ratio" C) (ct0 : ClsTy K C) (mi : mg "isinstance" = none) (mC : mg "Ratio" = some (.ref C)) (mg1 : mg "is_integer" = some (.ref a_int)) (k1 : PySem.W.keepIn K (.ref a_int) = true)
    (G1 : FnOk P w K mg base CX0 1 a_int d_int ["value"] (spD K P w 1 f_isInt)) (B1 : Binds K d_int ["value"] []) : FnOk P w K mg base CX0 2 a_f d_f ["value"] (spD K P w 1 f_isNum) :=
  fn_ok (n := 1) (p := 1) (m := m_isNum) (k := 1) F sc_isNum rfl rfl rfl (fun cdv A outer s H E hr =>
    b_one (ss_ret (s_or (s_call G1 (hr.mono (by decide)) mg1 k1 B1 (sa_cons (sv 0) sa_nil)) (s_one (s_isinstO ["Ratio"] kn at0 ct0 (fun c C' h1 h2 _ => by
      have e : c = "Ratio" := by simpa using h1
      subst e
      exact absurd h2 (by decide +kernel)) mi mC (sv 0))))))
abbrev s_need : Stmt := topR 27
theorem sc_need : FnScope ["number"] ["number"] (defScope s_need) := ⟨rfl, rfl, rfl, by decide +kernel, rfl, by decide +kernel, by decide +kernel⟩
def m_need : Rho → T Out := sIf (tNot' (eTest (eCall 1 f_isNum (aCons (eVar 0) aNil)))) sFail bNil
def f_need : List D → T D := runB 1 m_need
theorem g_need (F : Fun K "need_number" "need_number" s_need a_f d_f) (mg1 : mg "is_number" = some (.ref a_num)) (k1 : PySem.W.keepIn K (.ref a_num) = true)
    (G1 : FnOk P w K mg base CX0 2 a_num d_num ["value"] (spD K P w 1 f_isNum)) (B1 : Binds K d_num ["value"] []) : FnOk P w K mg base CX0 3 a_f d_f ["number"] (spD K P w 1 f_need) :=
  fn_ok (n := 1) (p := 1) (m := m_need) (k := 2) F sc_need rfl rfl rfl (fun cdv A outer s H E hr =>
    b_one (ss_if (st_not (st_val (s_call G1 (hr.mono (by decide)) mg1 k1 B1 (sa_cons (sv 0) sa_nil)))) (b_one ss_fail) b_nil))
abbrev s_tb : Stmt := topR 28
theorem sc_tb : FnScope ["number"] ["number"] (defScope s_tb) := ⟨rfl, rfl, rfl, by decide +kernel, rfl, by decide +kernel, by decide +kernel⟩
def m_tb : Rho → T Out := bSeq (sExpr (eCall 1 f_need (aCons (eVar 0) aNil))) (bSeq (sIf (eTest (eUn (isOC ["Ratio"] "Ratio") (eVar 0))) (sRet (eTup (aCons (eProp "Ratio" f_Rtop (eVar 0)) (aCons (eProp "Ratio" f_Rbottom (eVar 0)) aNil)))) bNil)
  (sRet (eTup (aCons (eVar 0) (aCons (eC (.int 1)) aNil)))))
def f_tb : List D → T D := runB 1 m_tb
theorem g_tb (F : Fun K "top_and_bottom" "top_and_bottom" s_tb a_f d_f) (kn : KnownC K ["Ratio"]) (at0 : ClsAt K "Ratio" C) (ct0 : ClsTy K C) (cl : Cls K C) (mi : mg "isinstance" = none) (mC : mg "Ratio" = some (.ref C)) (mg1 : mg "need_number" = some (.ref a_need)) (k1 : PySem.W.keepIn K (.ref a_need) = true)
    (G1 : FnOk P w K mg base CX0 3 a_need d_need ["number"] (spD K P w 1 f_need)) (B1 : Binds K d_need ["number"] [])
    (hp : PropOf K C "top" a_p g_p) (GP : FnOk P w K mg base CX0 1 g_p d_p ["self"] (spD K P w 1 f_Rtop)) (BP : Binds K d_p ["self"] [])
    (hq : PropOf K C "bottom" a_q g_q) (GQ : FnOk P w K mg base CX0 1 g_q d_q ["self"] (spD K P w 1 f_Rbottom)) (BQ : Binds K d_q ["self"] []) : FnOk P w K mg base CX0 4 a_f d_f ["number"] (spD K P w 1 f_tb) :=
  fn_ok (n := 1) (p := 1) (m := m_tb) (k := 3) F sc_tb rfl rfl rfl (fun cdv A outer s H E hr =>
    b_cons (ss_expr (s_call G1 (hr.mono (by decide)) mg1 k1 B1 (sa_cons (sv 0) sa_nil)))
    (b_cons (ss_if (st_val (s_isinstO ["Ratio"] kn at0 ct0 (fun c C' h1 h2 _ => by
      have e : c = "Ratio" := by simpa using h1
      subst e
      exact absurd h2 (by decide +kernel)) mi mC (sv 0)))
      (b_one (ss_ret (s_tup (sa_cons (s_prop at0 cl hp GP (hr.mono (by decide)) BP (sv 0)) (sa_cons (s_prop at0 cl hq GQ (hr.mono (by decide)) BQ (sv 0)) sa_nil))))) b_nil)
      (b_one (ss_ret (s_tup (sa_cons (sv 0) (sa_cons s_int sa_nil)))))))
end
def ratio (t b : Int) : D := .ins "Ratio" [("_top", .int t), ("_bottom", .int b)]
theorem sRR : (("Ratio" : Str) == "Ratio") = true := by decide +kernel
theorem sTT : (("_top" : Str) == "_top") = true := by decide +kernel
theorem sBB : (("_bottom" : Str) == "_bottom") = true := by decide +kernel
theorem sBT : (("_bottom" : Str) == "_top") = false := by decide +kernel
theorem isC_ratio (t b : Int) : isC "Ratio" (ratio t b) = .ret () := by unfold ratio isC; simp only [sRR, cond]
theorem top_ratio (t b : Int) : attrD "Ratio" "_top" (ratio t b) = .ret (.int t) := by unfold ratio attrD; simp only [sRR, cond, fieldD, sTT, optT]
theorem bottom_ratio (t b : Int) : attrD "Ratio" "_bottom" (ratio t b) = .ret (.int b) := by unfold ratio attrD; simp only [sRR, cond, fieldD, sBB, sBT, optT]
theorem isO_ratio (t b : Int) : isOC ["Ratio"] "Ratio" (ratio t b) = .ret (.bl true) := by unfold ratio isOC; simp only [sRR, cond]
theorem isDC_ratio (k : Ty5) (t b : Int) : isDC ["Ratio"] k (ratio t b) = .ret (.bl false) := by unfold ratio isDC; simp only [List.contains, List.elem, sRR, cond]
theorem isDC_int (k : Ty5) (i : Int) : isDC ["Ratio"] k (.int i) = .ret (.bl (Ty5.sub .int k)) := rfl
theorem isO_int (i : Int) : isOC ["Ratio"] "Ratio" (.int i) = .ret (.bl false) := rfl
theorem small2 (x y : D) : small [x, y] = true := by unfold small; simp
theorem isInt_int (i : Int) : f_isInt [.int i] = .ret (.bl true) := by
  simp [f_isInt, runB, m_isInt, sRet, eAnd, eUn, eNot, eVar, T.bind, isDC_int, asB, Ty5.sub]
theorem isInt_ratio (t b : Int) : f_isInt [ratio t b] = .ret (.bl false) := by
  simp [f_isInt, runB, m_isInt, sRet, eAnd, eUn, eNot, eVar, T.bind, isDC_ratio, asB, Ty5.sub]
theorem isNum_int (i : Int) : f_isNum [.int i] = .ret (.bl true) := by
  simp [f_isNum, runB, m_isNum, sRet, eOr, eCall, aCons, aNil, eVar, T.bind, isInt_int, asB]
theorem isNum_ratio (t b : Int) : f_isNum [ratio t b] = .ret (.bl true) := by
  simp [f_isNum, runB, m_isNum, sRet, eOr, eCall, aCons, aNil, eVar, eUn, T.bind, isInt_ratio, isO_ratio, asB]
theorem need_of {d : D} (h : f_isNum [d] = .ret (.bl true)) : f_need [d] = .ret .non := by
  simp [f_need, runB, m_need, sIf, tNot', eTest, eCall, aCons, aNil, eVar, T.bind, h, asB, bNil]
theorem tb_int (i : Int) : f_tb [.int i] = .ret (.tup [.int i, .int 1]) := by
  simp [f_tb, runB, m_tb, bSeq, sExpr, sIf, sRet, eTest, eUn, eCall, aCons, aNil, eVar, eC, eTup, T.bind, need_of (isNum_int i), isO_int, asB, bNil, small2]
theorem rtop_ratio (t b : Int) : f_Rtop [ratio t b] = .ret (.int t) := by
  simp [f_Rtop, runB, sRet, aT, eUn, eVar, T.bind, top_ratio]
theorem rbottom_ratio (t b : Int) : f_Rbottom [ratio t b] = .ret (.int b) := by
  simp [f_Rbottom, runB, sRet, aB, eUn, eVar, T.bind, bottom_ratio]
theorem tb_ratio (t b : Int) : f_tb [ratio t b] = .ret (.tup [.int t, .int b]) := by
  simp [f_tb, runB, m_tb, bSeq, sExpr, sIf, sRet, eTest, eUn, eCall, aCons, aNil, eVar, eC, eTup, eProp, isC_ratio, rtop_ratio, rbottom_ratio, T.bind, need_of (isNum_ratio t b), isO_ratio, asB, bNil, small2]
end Pd
namespace Pd
open PySem L2 PySem.Spec PyProof.Rows
theorem ratioBy_abs (t b : Int) : (ratioBy t b).natAbs = Nat.gcd t.natAbs b.natAbs := by
  unfold ratioBy; split <;> omega
theorem ratioBy_ne {t b : Int} (hb : b ≠ 0) : ratioBy t b ≠ 0 := fun z => by
  have h := ratioBy_abs t b
  rw [z] at h
  exact hb (Int.natAbs_eq_zero.mp (Nat.eq_zero_of_gcd_eq_zero_right h.symm))
theorem noPylong {x y : Int} (h : y.natAbs.log2 < 9000) : Builtin.divisionGoesByPylong x y = false := by
  unfold Builtin.divisionGoesByPylong
  have : ¬ ((if (y == 0) = true then 0 else y.natAbs.log2 / 30 + 1) > 300) := by
    split <;> omega
  show (decide _ && _) = false
  rw [decide_eq_false this]
  rfl
theorem ratioBy_log {t b : Int} (hb : b ≠ 0) (h : b.natAbs.log2 < 9000) : (ratioBy t b).natAbs.log2 < 9000 := by
  have b0 : b.natAbs ≠ 0 := fun z => hb (Int.natAbs_eq_zero.mp z)
  have r0 : (ratioBy t b).natAbs ≠ 0 := fun z => ratioBy_ne (t := t) hb (Int.natAbs_eq_zero.mp z)
  refine (Nat.log2_lt r0).mpr (Nat.lt_of_le_of_lt ?_ ((Nat.log2_lt b0).mp h))
  rw [ratioBy_abs]
  exact Nat.le_of_dvd (Nat.pos_of_ne_zero b0) (Nat.gcd_dvd_right _ _)
/-- t / b in lowest terms, as a Ratio -/
def lowR (t b : Int) : D := ratio (t.fdiv (ratioBy t b)) (b.fdiv (ratioBy t b))
theorem init_val {t b : Int} (hb : b ≠ 0) (h : b.natAbs.log2 < 9000) : f_Ratio_init [.int t, .int b] = .ret [("_top", .int (t.fdiv (ratioBy t b))), ("_bottom", .int (b.fdiv (ratioBy t b)))] := by
  have l := ratioBy_log (t := t) hb h
  simp [f_Ratio_init, hb, noPylong l]
theorem mk_val {ρ : Rho} {x y : Rho → T D} {t b : Int} (hx : x ρ = .ret (.int t)) (hy : y ρ = .ret (.int b)) (hb : b ≠ 0) (h : b.natAbs.log2 < 9000) : mkR x y ρ = .ret (lowR t b) := by
  simp [mkR, eMake, aCons, aNil, T.bind, hx, hy, init_val hb h, lowR, ratio]
theorem eqI (i j : Int) : opEq (.int i) (.int j) = .ret (.bl (i == j)) := by
  have q : ∀ k : Int, SeqAt.shaped (PyData.int k) = true := fun _ => rfl
  simp only [opEq, eqD, D.py, q, Bool.and_self, cond, PyData.eqv]
end Pd
namespace Pd
open PySem L2 PySem.Spec PyProof.Rows
def qR (q : Rat) : D := ratio q.num q.den
theorem ratioBy_pos {t b : Int} (h : 0 < b) : ratioBy t b = (Int.gcd b t : Int) := by
  unfold ratioBy
  rw [if_neg (by omega), Nat.gcd_comm]
  rfl
theorem ratioBy_neg {t b : Int} (h : b < 0) : ratioBy t b = -(Int.gcd b t : Int) := by
  unfold ratioBy
  rw [if_pos h, Nat.gcd_comm]
  rfl
theorem low_num {t b : Int} (hb : b ≠ 0) : t.fdiv (ratioBy t b) = (Rat.divInt t b).num := by
  rw [Rat.num_divInt]
  rcases Int.lt_or_gt_of_ne hb with h | h
  · rw [ratioBy_neg h, Int.sign_eq_neg_one_of_neg h]
    have e : t.fdiv (-(Int.gcd b t : Int)) = (-t).fdiv (Int.gcd b t : Int) := by
      have := Int.neg_fdiv_neg (-t) (Int.gcd b t : Int)
      rw [Int.neg_neg] at this
      exact this
    rw [e, Int.fdiv_eq_ediv_of_nonneg _ (by omega)]
    simp
  · rw [ratioBy_pos h, Int.sign_eq_one_of_pos h, Int.fdiv_eq_ediv_of_nonneg _ (by omega), Int.one_mul]
theorem low_den {t b : Int} (hb : b ≠ 0) : b.fdiv (ratioBy t b) = ((Rat.divInt t b).den : Int) := by
  rw [Rat.den_divInt, if_neg hb]
  rcases Int.lt_or_gt_of_ne hb with h | h
  · rw [ratioBy_neg h]
    have e : b.fdiv (-(Int.gcd b t : Int)) = (-b).fdiv (Int.gcd b t : Int) := by
      have := Int.neg_fdiv_neg (-b) (Int.gcd b t : Int)
      rw [Int.neg_neg] at this
      exact this
    rw [e, Int.fdiv_eq_ediv_of_nonneg _ (by omega)]
    have z : -b = (b.natAbs : Int) := by omega
    rw [z]
    simp
  · rw [ratioBy_pos h, Int.fdiv_eq_ediv_of_nonneg _ (by omega)]
    have z : b = (b.natAbs : Int) := by omega
    rw [z]
    simp
theorem lowR_rat {t b : Int} (hb : b ≠ 0) : lowR t b = qR (Rat.divInt t b) := by
  unfold lowR qR
  rw [low_num hb, low_den hb]
/-- the law's pair -/
def qP (q : Rat) : D := .tup [.int q.num, .int q.den]
/-- both numbers below 2 ** n -/
structure Sz (n : Nat) (q : Rat) : Prop where
  num : q.num.natAbs < 2 ^ n
  den : q.den < 2 ^ n
theorem Sz.mono {m n : Nat} {q : Rat} (h : Sz m q) (l : m ≤ n) : Sz n q :=
  ⟨Nat.lt_of_lt_of_le h.num (Nat.pow_le_pow_right (by decide) l), Nat.lt_of_lt_of_le h.den (Nat.pow_le_pow_right (by decide) l)⟩
theorem log_of {x n k : Nat} (h : x < 2 ^ n) (l : n ≤ k) (hk : 0 < k) : x.log2 < k := by
  by_cases z : x = 0
  · subst z; simpa using hk
  · exact (Nat.log2_lt z).mpr (Nat.lt_of_lt_of_le h (Nat.pow_le_pow_right (by decide) l))
theorem sz_divInt {n : Nat} {t b : Int} (hb : b ≠ 0) (ht : t.natAbs < 2 ^ n) (h : b.natAbs < 2 ^ n) : Sz n (Rat.divInt t b) := by
  constructor
  · rw [Rat.num_divInt]
    refine Nat.lt_of_le_of_lt (Int.natAbs_ediv_le_natAbs _ _) ?_
    rw [Int.natAbs_mul]
    rcases Int.lt_or_gt_of_ne hb with h | h
    · rw [Int.sign_eq_neg_one_of_neg h]; simpa using ht
    · rw [Int.sign_eq_one_of_pos h]; simpa using ht
  · rw [Rat.den_divInt, if_neg hb]
    exact Nat.lt_of_le_of_lt (Nat.div_le_self _ _) h
/-- a number of either kind: its top and bottom as top_and_bottom tells them -/
inductive Num : D → Rat → Prop where
  | q (p : Rat) : Num (qR p) p
  | i (i : Int) : Num (.int i) (i : Rat)
theorem Num.tb {d : D} {q : Rat} (h : Num d q) : f_tb [d] = .ret (.tup [.int q.num, .int q.den]) := by
  cases h with
  | q p => exact tb_ratio _ _
  | i i => exact tb_int i
section
variable {p q : Rat} {d : D} {m n : Nat}
theorem den_ne : (q.den : Int) ≠ 0 := by have := q.den_nz; omega
end
end Pd
namespace Pd
open PySem L2 PySem.Spec PyProof.Rows
section
variable {P : Program} {w : World} {K : PySem.W.Frag} {mg : Str → Option Value} {base : Heap} {ft : List D → T D} {C a_i a_t a_f : Addr} {d_i d_t d_f : FuncData}
abbrev s_Req : Stmt := inClass (topR 25) 17
theorem sc_Req : FnScope ["self", "other"] ["self", "other"] (defScope s_Req) := ⟨rfl, rfl, rfl, by decide +kernel, rfl, by decide +kernel, by decide +kernel⟩
def m_Req : Rho → T Out := sRet (eAnd (eUn (isOC ["Ratio"] "Ratio") (eVar 1)) (eAnd (eBin opEq aT (eUn (attrD "Ratio" "_top") (eVar 1))) (eBin opEq aB (eUn (attrD "Ratio" "_bottom") (eVar 1)))))
def f_Req : List D → T D := runB 2 m_Req
theorem g_Req (F : Fun K "__eq__" "Ratio.__eq__" s_Req a_f d_f) (R : RH P w K mg base ft C a_i a_t d_i d_t) (kn : KnownC K ["Ratio"]) (ct0 : ClsTy K C) (mi : mg "isinstance" = none) : FnOk P w K mg base CX0 1 a_f d_f ["self", "other"] (spD K P w 2 f_Req) :=
  fn_ok (n := 2) (p := 2) (m := m_Req) (k := 0) F sc_Req rfl rfl rfl (fun cdv A outer s H E hr =>
    b_one (ss_ret (s_and (s_isinstO ["Ratio"] kn R.at_ ct0 (fun c C' h1 h2 _ => by
      have e : c = "Ratio" := by simpa using h1
      subst e
      exact absurd h2 (by decide +kernel)) mi R.mC (sv 1))
      (s_and (s_cmp (os_eq hr.units) (s_attr R.at_ R.cl R.nt (sv 0)) (s_attr R.at_ R.cl R.nt (sv 1)) (nomark _)) (s_one (s_cmp (os_eq hr.units) (s_attr R.at_ R.cl R.nb (sv 0)) (s_attr R.at_ R.cl R.nb (sv 1)) (nomark _)))))))
end
theorem eq_rat (p q : Rat) : f_Req [qR p, qR q] = .ret (.bl (decide (p = q))) := by
  have e1 : eUn (isOC ["Ratio"] "Ratio") (eVar 1) [.val (qR p), .val (qR q)] = .ret (.bl true) := by simp [eUn, eVar, T.bind, qR, isO_ratio]
  have e2 : eBin opEq aT (eUn (attrD "Ratio" "_top") (eVar 1)) [.val (qR p), .val (qR q)] = .ret (.bl (p.num == q.num)) := by simp only [eBin, aT, eUn, eVar, T.bind, qR, top_ratio, List.getElem?_cons_succ, List.getElem?_cons_zero, eqI]
  have e3 : eBin opEq aB (eUn (attrD "Ratio" "_bottom") (eVar 1)) [.val (qR p), .val (qR q)] = .ret (.bl ((p.den : Int) == (q.den : Int))) := by simp only [eBin, aB, eUn, eVar, T.bind, qR, bottom_ratio, List.getElem?_cons_succ, List.getElem?_cons_zero, eqI]
  by_cases c1 : p.num = q.num
  · by_cases c2 : p.den = q.den
    · have e : p = q := Rat.ext c1 c2
      subst e
      simp [f_Req, runB, m_Req, sRet, eAnd, T.bind, e1, e2, e3, asB, List.replicate]
    · have e : ¬ p = q := fun z => c2 (by rw [z])
      have c3 : ((p.den : Int) == (q.den : Int)) = false := beq_false_of_ne fun z => c2 (Int.ofNat.inj z)
      simp [f_Req, runB, m_Req, sRet, eAnd, T.bind, e1, e2, e3, c1, c3, e, asB, List.replicate]
  · have e : ¬ p = q := fun z => c1 (by rw [z])
    have c3 : (p.num == q.num) = false := by simpa using c1
    simp [f_Req, runB, m_Req, sRet, eAnd, T.bind, e1, e2, c3, e, asB, List.replicate]
end Pd
namespace Pd
open PySem L2 PySem.Spec PyProof.Rows
def rRat : D → Option Str := rOne "Ratio" f_Rrepr
def eRat : D → D → Option Bool := eCls "Ratio" f_Req
abbrev f_is_integer : List D → T D := f_isInt
abbrev f_is_number : List D → T D := f_isNum
abbrev f_need_number : List D → T D := f_need
section
variable {P : Program} {w : World} {K : PySem.W.Frag} {mg : Str → Option Value} {base : Heap} {a_draw : Addr}
abbrev s_draw : Stmt := topR 47
theorem sc_draw : FnScope ["_law_pot_here", "_law_many", "_law_digit"] ["_law_pot_here", "_law_many"] (defScope s_draw) := ⟨rfl, rfl, rfl, by decide +kernel, rfl, by decide +kernel, by decide +kernel⟩
theorem g_draw {d_draw : FuncData} (F : Fun K "_law_draw" "_law_draw" s_draw a_draw d_draw) (zd : mg "divmod" = none) (zi : mg "int" = none) : FnOk P w K mg base CX0 1 a_draw d_draw ["_law_pot_here", "_law_many"] (spD K P w 2 f__law_draw) := by
  have nd := sc_draw.nd
  refine F.ok (k := 0) sc_draw (fun vs H Q E h => ?_) (fun cdv A outer s H vs Q E hr h => ⟨_, pss_cons (ps_if (pt_cmpR op_gt (pe_ix ix_list (pv 0) pe_int (fun _ _ => rfl)) pe_int (nomark _))
    (pss_cons (ps_asg (pe_callB call_divmod rfl zd (by decide +kernel) (pa_cons (pe_ix ix_list (pv 0) pe_int (fun _ _ => rfl)) (pa_cons (pv 1) pa_nil))) (pg_tup rfl (pgs_cons (pg_sub (pv 0) pe_int set_list) (pgs_cons (pg_name (i := 2) nd rfl (.inl rfl)) pgs_nil)))) (pss_one (ps_ret (pv 2)))) pss_nil)
    (pss_cons (ps_asg (pe_op op_mod (pe_callTy call_int1 rfl zi (by decide +kernel) (pa_cons (pe_op op_add (pe_op op_mul (pe_ix ix_list (pv 0) pe_int (fun _ _ => rfl)) pe_int) pe_int) pa_nil)) pe_int) (pg_sub (pv 0) pe_int set_list))
    (pss_one (ps_ret (pe_op op_mod (pe_callTy call_int1 rfl zi (by decide +kernel) (pa_cons (pe_op op_fdiv (pe_op op_mod (pe_callTy call_int1 rfl zi (by decide +kernel) (pa_cons (pe_op op_mul (pe_ix ix_list (pv 0) pe_int (fun _ _ => rfl)) (pe_ix ix_list (pv 0) pe_int (fun _ _ => rfl))) pa_nil)) pe_int) pe_int) pa_nil)) (pv 1))))), ?_⟩)
  · obtain ⟨π, N, ds, hn, r, hl, _⟩ := h
    exact hl
  · obtain ⟨π, N, ds, hn, r, hl, hall⟩ := h
    unfold f__law_draw at hall
    split at hall
    · rename_i n
      cases r with
      | cons r1 r =>
      cases r with
      | cons r2 r =>
      cases r
      cases r1
      cases r2
      obtain ⟨hb, hall⟩ := cond_all hall
      simp only [Bool.and_eq_true, decide_eq_true_eq] at hb
      obtain ⟨n0, n1⟩ := hb
      obtain ⟨x, y, hp, hx, hy, hy2⟩ := hn.pot
      have got : ∀ i : Int, 0 ≤ i → i < n → ∀ H', Ex π H H' → Q (.int i) H' := fun i i0 i1 H' e => by
        have q := hall i.toNat (by omega)
        have ei : ((i.toNat : Nat) : Int) = i := Int.toNat_of_nonneg i0
        have z := q (.int i) H' e
        rw [ei] at z
        exact z (.int i)
      refine ⟨_, rfl, π, _, 0, .int x, rfl, rfl, .inl (.inl hp), rfl, _, _, rfl, rfl, _, rfl, ?_⟩
      by_cases c : 0 < x
      · refine iteT' (decide_eq_true c) ?_
        refine ⟨_, rfl, π, _, 0, .int x, rfl, rfl, .inl (.inl hp), rfl, _, rfl, x, n, rfl, ⟨n0, by omega⟩, fun p pn => ?_⟩
        have ppi : p ≠ π := hn.pot.ne pn
        have h1 : upd H p (.tup [.int (x / n), .int (x % n)]) π = some (.lst [.int x, .int y]) := by rw [upd_ne ppi.symm]; exact hp
        refine ⟨p, _, rfl, .inl (.inl upd_same), rfl, _, _, rfl, ⟨_, rfl, π, _, 0, 0, rfl, rfl, h1, rfl, ?_⟩⟩
        refine ⟨_, _, rfl, ?_⟩
        show [] = [] ∧ _
        refine ⟨rfl, ?_⟩
        refine ⟨_, rfl, got (x % n) (Int.emod_nonneg x (by omega)) (Int.emod_lt_of_pos x n0) _ ⟨fun a o ne e => ?_, x / n, y, by rw [upd_same]; rfl, Int.ediv_nonneg hx (by omega), hy, hy2⟩⟩
        rw [upd_ne ne, upd_ne (ne_of_none e pn)]
        exact e
      · refine iteF' (decide_eq_false c) ?_
        have m1 : CMul y 44159 := .inl ⟨by omega, by omega⟩
        refine ⟨_, rfl, π, _, 1, .int y, rfl, rfl, .inl (.inl hp), rfl, _, _, rfl, rfl, m1, _, _, rfl, rfl, .inl ⟨_, rfl, _, _, rfl, rfl, (show (0 : Int) < 2147483629 by decide), _, rfl, π, _, 1, 1, rfl, rfl, hp, rfl, ?_⟩⟩
        have hy3 : 0 ≤ (y * 44159 + 1009) % 2147483629 := Int.emod_nonneg _ (by decide)
        have hy4 : (y * 44159 + 1009) % 2147483629 < 2147483629 := Int.emod_lt_of_pos _ (by decide)
        have h1 : upd H π (.lst ([.int x, .int y].set 1 (.int ((y * 44159 + 1009) % 2147483629)))) π = some (.lst [.int x, .int ((y * 44159 + 1009) % 2147483629)]) := upd_same
        have m2 : CMul ((y * 44159 + 1009) % 2147483629) ((y * 44159 + 1009) % 2147483629) := .inl ⟨by omega, by omega⟩
        refine ⟨_, rfl, π, _, 1, .int ((y * 44159 + 1009) % 2147483629), rfl, rfl, .inl (.inl h1), rfl, _, rfl, π, _, 1, .int ((y * 44159 + 1009) % 2147483629), rfl, rfl, .inl (.inl h1), rfl, _, _, rfl, rfl, m2, .inl ⟨_, rfl, _, _, rfl, rfl, (show (0 : Int) < 2147483587 by decide), _, _, rfl, rfl, (show CDiv _ 13 from ⟨by decide, by decide⟩), .inl ⟨_, rfl, _, rfl, _, _, rfl, rfl, n0, ?_⟩⟩⟩
        refine got _ (Int.emod_nonneg _ (by omega)) (Int.emod_lt_of_pos _ n0) _ ⟨fun a o ne e => ?_, x, ((y * 44159 + 1009) % 2147483629), h1, hx, hy3, by omega⟩
        rw [upd_ne ne]
        exact e
    · exact False.elim hall
def spPot (K : PySem.W.Frag) : Sp := fun vs H Q _ => ∃ (a : Addr) (ns : List Int) (k : Nat), vs = [.ref a, .int (k : Nat)] ∧ k < 1000 ∧ SqL K H a (ns.map V.int) ∧ ∀ (p : Addr) (x y : Int), H p = none → 0 ≤ x → 0 ≤ y → y < 2147483648 → Q (.ref p) (upd H p (.lst [.int x, .int y]))
abbrev s_pot : Stmt := topR 46
theorem sc_pot : FnScope ["_law_script", "_law_k", "_law_cell"] ["_law_script", "_law_k"] (defScope s_pot) := ⟨rfl, rfl, rfl, by decide +kernel, rfl, by decide +kernel, by decide +kernel⟩
abbrev rInt1 : List V → Hp → VK → Prop := fun xs H Q => (∃ i, xs = [V.int i] ∧ Q (V.int i) H) ∨ ∃ k, xs = [V.bl k] ∧ Q (V.int (if k = true then 1 else 0)) H
def potTe : TE := tLst (tCons (tCB (fun xs H Q => ∃ i j, xs = [V.int i, V.int j] ∧ Q (V.int (if j > i then j else i)) H) (tCons (tC (V.int 0)) (tCons (tOp (rI0 fun i j => V.int (i - j)) (tVar 2) (tOp (rI CPow fun i j => V.int (i ^ j.toNat)) (tC (V.int 10)) (tC (V.int 18)))) tNil)))
  (tCons (tOp (rI0 fun i j => V.int (i + j)) (tOp (rI (fun x j => 0 < j) fun i j => V.int (i % j)) (tCB rInt1 (tCons (tOp (rI0 fun i j => V.int (i + j)) (tOp (rI0 fun i j => V.int (i + j)) (tOp (rI CMul fun i j => V.int (i * j)) (tOp (rI (fun x j => 0 < j) fun i j => V.int (i % j)) (tCB rInt1 (tCons (tVar 2) tNil)) (tC (V.int 2147483549))) (tC (V.int 44159)))
    (tOp (rI CMul fun i j => V.int (i * j)) (tC (V.int 1009)) (tVar 1))) (tC (V.int 23143))) tNil)) (tC (V.int 2147483579))) (tC (V.int 1))) tNil))
theorem potTail {De : Ends} {Q : VK} {a : Addr} {k : Nat} {H : Hp} {c : Int} {Nm : List Str} (hN : Nm.length = 3) (hQ : De.rt = Q) (q : ∀ (p : Addr) (x y : Int), H p = none → 0 ≤ x → 0 ≤ y → y < 2147483648 → Q (.ref p) (upd H p (.lst [.int x, .int y]))) (hk : k < 1000) (c0 : 0 ≤ c) :
    tRet potTe De ((L2.start Nm [.ref a, .int (k : Nat)]).set 2 (some (.int c))) H := by
  subst hQ
  have e2 : ((L2.start Nm [.ref a, .int (k : Nat)]).set 2 (some (.int c)))[2]? = some (some (.int c)) := by
    rw [List.getElem?_set_self]
    unfold L2.start
    rw [List.length_append, List.length_map, List.length_replicate, hN]
    exact (by decide : 2 < 2 + (3 - 2))
  have e1 : ((L2.start Nm [.ref a, .int (k : Nat)]).set 2 (some (.int c)))[1]? = some (some (.int (k : Nat))) := rfl
  have m1 : CMul (c % 2147483549) 44159 := .inr ⟨by decide, by decide⟩
  have m2 : CMul 1009 ((k : Nat) : Int) := .inl ⟨by decide, by decide⟩
  have y0 := Int.emod_nonneg (c % 2147483549 * 44159 + 1009 * ((k : Nat) : Int) + 23143) (show (2147483579 : Int) ≠ 0 by decide)
  have y1 := Int.emod_lt_of_pos (c % 2147483549 * 44159 + 1009 * ((k : Nat) : Int) + 23143) (show (0 : Int) < 2147483579 by decide)
  refine ⟨_, e2, _, _, rfl, rfl, ⟨by decide, by decide, by decide⟩, _, _, rfl, rfl, _, _, rfl, _, e2, .inl ⟨_, rfl, _, _, rfl, rfl, (show (0 : Int) < 2147483549 by decide), _, _, rfl, rfl, m1, _, e1, _, _, rfl, rfl, m2, _, _, rfl, rfl, _, _, rfl, rfl, .inl ⟨_, rfl, _, _, rfl, rfl, (show (0 : Int) < 2147483579 by decide), _, _, rfl, rfl, by show 2 ≤ sizeLine; decide, fun p hp => q p _ _ hp ?_ (by omega) (by omega)⟩⟩⟩
  split <;> omega
theorem g_pot {a_pot : Addr} {d_pot : FuncData} (F : Fun K "_law_pot" "_law_pot" s_pot a_pot d_pot) (za : mg "abs" = none) (zl : mg "len" = none) (zm : mg "max" = none) (zi : mg "int" = none) : FnOk P w K mg base CX0 1 a_pot d_pot ["_law_script", "_law_k"] (spPot K) := by
  have nd := sc_pot.nd
  refine F.ok (k := 0) sc_pot (fun vs H Q E h => ?_) (fun cdv A outer s H vs Q E hr h => ⟨_, pss_cons (ps_set (i := 2) nd rfl (.inl rfl) (pe_ifExp (pt_cmpR op_lt (pv 1) (pe_callB call_len_seq rfl zl (by decide +kernel) (pa_cons (pv 0) pa_nil)) (nomark _))
    (pe_callB call_abs rfl za (by decide +kernel) (pa_cons (pe_ix ix_list (pv 0) (pv 1) (fun _ _ => rfl)) pa_nil)) (pe_op op_add (pe_op op_mul pe_int (pv 1)) pe_int)))
    (pss_one (ps_ret (pe_lst (pa_cons (pe_callB (call_max2 rfl) rfl zm (by decide +kernel) (pa_cons pe_int (pa_cons (pe_op op_sub (pv 2) (pe_op op_pow pe_int pe_int)) pa_nil)))
      (pa_cons (pe_op op_add (pe_op op_mod (pe_callTy call_int1 rfl zi (by decide +kernel) (pa_cons (pe_op op_add (pe_op op_add (pe_op op_mul (pe_op op_mod (pe_callTy call_int1 rfl zi (by decide +kernel) (pa_cons (pv 2) pa_nil)) pe_int) pe_int) (pe_op op_mul pe_int (pv 1))) pe_int) pa_nil)) pe_int) pe_int) pa_nil))))), ?_⟩)
  · obtain ⟨a, ns, k, rfl, _⟩ := h
    rfl
  · obtain ⟨a, ns, k, rfl, hk, hs, q⟩ := h
    refine ⟨_, rfl, _, rfl, a, _, rfl, .inl hs, _, _, rfl, rfl, _, rfl, ?_⟩
    have hlt : decide (((k : Nat) : Int) < ((ns.map V.int).length : Nat)) = decide (k < ns.length) := by
      rw [List.length_map]
      exact decide_eq_decide.mpr (by omega)
    rcases Nat.lt_or_ge k ns.length with c | c
    · refine iteT' (hlt.trans (decide_eq_true c)) ?_
      refine ⟨_, rfl, _, rfl, a, _, (k : Nat), _, rfl, rfl, hs, atI_cell c, _, rfl, ?_⟩
      have c0 : 0 ≤ (if cellOf ns k < 0 then -cellOf ns k else cellOf ns k) := by split <;> omega
      exact potTail (Nm := ["_law_script", "_law_k", "_law_cell"]) rfl rfl q hk c0
    · refine iteF' (hlt.trans (decide_eq_false (by omega))) ?_
      refine ⟨_, rfl, _, _, rfl, rfl, (.inl ⟨by decide, by decide⟩ : CMul 2339 ((k : Nat) : Int)), _, _, rfl, rfl, ?_⟩
      have c0 : 0 ≤ 2339 * ((k : Nat) : Int) + 1451 := by omega
      exact potTail (Nm := ["_law_script", "_law_k", "_law_cell"]) rfl rfl q hk c0
end
abbrev s_is_count : Stmt := topR 19
theorem sc_is_count : FnScope ["value"] ["value"] (defScope s_is_count) := ⟨rfl, rfl, rfl, by decide +kernel, rfl, by decide +kernel, by decide +kernel⟩
def m_is_count : Rho → T Out := (sRet (eAnd (eCall 1 f_is_integer (aCons (eVar 0) aNil)) (eBin opGe (eVar 0) (eC (.int 0)))))
def f_is_count : List D → T D := runB 1 m_is_count
abbrev s_is_count_to : Stmt := topR 20
theorem sc_is_count_to : FnScope ["value", "most"] ["value", "most"] (defScope s_is_count_to) := ⟨rfl, rfl, rfl, by decide +kernel, rfl, by decide +kernel, by decide +kernel⟩
def m_is_count_to : Rho → T Out := (sRet (eAnd (eCall 1 f_is_count (aCons (eVar 0) aNil)) (eBin opLe (eVar 0) (eVar 1))))
def f_is_count_to : List D → T D := runB 2 m_is_count_to
abbrev s_is_list : Stmt := topR 21
theorem sc_is_list : FnScope ["value"] ["value"] (defScope s_is_list) := ⟨rfl, rfl, rfl, by decide +kernel, rfl, by decide +kernel, by decide +kernel⟩
def m_is_list : Rho → T Out := (sRet (eUn (isD2 ["Ratio", "Table"] .list .tuple) (eVar 0)))
def f_is_list : List D → T D := runB 1 m_is_list
abbrev s_need_columns : Stmt := topR 22
theorem sc_need_columns : FnScope ["columns"] ["columns"] (defScope s_need_columns) := ⟨rfl, rfl, rfl, by decide +kernel, rfl, by decide +kernel, by decide +kernel⟩
def m_need_columns : Rho → T Out := (sIf (tNot' (eTest (eCall 2 f_is_count_to (aCons (eVar 0) (aCons (eC (.int 3)) aNil))))) sFail bNil)
def f_need_columns : List D → T D := runB 1 m_need_columns
abbrev s_as_ratio : Stmt := topR 29
theorem sc_as_ratio : FnScope ["number"] ["number"] (defScope s_as_ratio) := ⟨rfl, rfl, rfl, by decide +kernel, rfl, by decide +kernel, by decide +kernel⟩
def m_as_ratio : Rho → T Out := (bSeq (sIf (eTest (eUn (isOC ["Ratio", "Table"] "Ratio") (eVar 0))) (sRet (eVar 0)) bNil) (sRet (eMake "Ratio" 1 [.int 1] f_Ratio_init (aCons (eVar 0) aNil))))
def f_as_ratio : List D → T D := runB 1 m_as_ratio
abbrev s_are_numbers : Stmt := topR 30
theorem sc_are_numbers : FnScope ["value", "many", "number"] ["value", "many"] (defScope s_are_numbers) := ⟨rfl, rfl, rfl, by decide +kernel, rfl, by decide +kernel, by decide +kernel⟩
def m_are_numbers : Rho → T Out := (sRet (eAnd (eCall 1 f_is_list (aCons (eVar 0) aNil)) (eAnd (eBin opEqF (eCa bLen (aCons (eVar 0) aNil)) (eVar 1)) (eCa bAll (aCons (eL (lComp [2] (iSq 0) (gNm 2) yesT (eCall 1 f_is_number (aCons (eVar 2) aNil)))) aNil)))))
def f_are_numbers : List D → T D := runB 3 m_are_numbers
abbrev s_are_rows : Stmt := topR 34
theorem sc_are_rows : FnScope ["columns", "value", "row"] ["columns", "value"] (defScope s_are_rows) := ⟨rfl, rfl, rfl, by decide +kernel, rfl, by decide +kernel, by decide +kernel⟩
def m_are_rows : Rho → T Out := (bSeq (sIf (tOr' (tNot' (eTest (eCall 1 f_is_list (aCons (eVar 1) aNil)))) (eTest (eBin opGt (eCa bLen (aCons (eVar 1) aNil)) (eC (.int 40))))) (sRet (eC (.bl false))) bNil) (sRet (eCa bAll (aCons (eL (lComp [2] (iSq 1) (gNm 2) yesT (eCall 2 f_are_numbers (aCons (eVar 2) (aCons (eVar 0) aNil))))) aNil))))
def f_are_rows : List D → T D := runB 3 m_are_rows
abbrev s_Table_init : Stmt := inClass (topR 33) 0
theorem sc_Table_init : FnScope ["self", "columns", "rows", "row", "number"] ["self", "columns", "rows"] (defScope s_Table_init) := ⟨rfl, rfl, rfl, by decide +kernel, rfl, by decide +kernel, by decide +kernel⟩
def m_Table_init : MI := (iChk (eCall 1 f_need_columns (aCons (eVar 1) aNil)) (iIf (tNot' (eTest (eCall 2 f_are_rows (aCons (eVar 1) (aCons (eVar 2) aNil))))) (iFld "_columns" (eVar 1) (iFld "_rows" (eL (lComp [3] (iSq 2) (gNm 3) yesT (eL (lComp [4] (iSq 3) (gNm 4) yesT (eCall 1 f_as_ratio (aCons (eVar 4) aNil)))))) iNil))))
def f_Table_init : List D → T (List (Str × D)) := runI 4 m_Table_init
abbrev s_Table_columns : Stmt := inClass (topR 33) 1
theorem sc_Table_columns : FnScope ["self"] ["self"] (defScope s_Table_columns) := ⟨rfl, rfl, rfl, by decide +kernel, rfl, by decide +kernel, by decide +kernel⟩
def m_Table_columns : Rho → T Out := (sRet (eUn (attrD "Table" "_columns") (eVar 0)))
def f_Table_columns : List D → T D := runB 1 m_Table_columns
abbrev s_Table_height : Stmt := inClass (topR 33) 2
theorem sc_Table_height : FnScope ["self"] ["self"] (defScope s_Table_height) := ⟨rfl, rfl, rfl, by decide +kernel, rfl, by decide +kernel, by decide +kernel⟩
def m_Table_height : Rho → T Out := (sRet (eCa bLen (aCons (eUn (attrD "Table" "_rows") (eVar 0)) aNil)))
def f_Table_height : List D → T D := runB 1 m_Table_height
abbrev s_Table_rows : Stmt := inClass (topR 33) 3
theorem sc_Table_rows : FnScope ["self", "row"] ["self"] (defScope s_Table_rows) := ⟨rfl, rfl, rfl, by decide +kernel, rfl, by decide +kernel, by decide +kernel⟩
def m_Table_rows : Rho → T (List D) := (lComp [1] (iLst (eUn (attrD "Table" "_rows") (eVar 0))) (gNm 1) yesT (eL (lCa bList (aCons (eVar 1) aNil))))
def f_Table_rows : List D → T (List D) := runL 2 m_Table_rows
abbrev s_Table_eq : Stmt := inClass (topR 33) 4
theorem sc_Table_eq : FnScope ["self", "other"] ["self", "other"] (defScope s_Table_eq) := ⟨rfl, rfl, rfl, by decide +kernel, rfl, by decide +kernel, by decide +kernel⟩
def m_Table_eq : Rho → T Out := (sRet (eAnd (eUn (isOC ["Ratio", "Table"] "Table") (eVar 1)) (eAnd (eBin (opOr (opEqD false eRat) opEqF (fun x _ => isBig x)) (eUn (attrD "Table" "_columns") (eVar 0)) (eUn (attrD "Table" "_columns") (eVar 1))) (eBin (opOr (opEqD false eRat) opEqF (fun x _ => isBig x)) (eUn (attrD "Table" "_rows") (eVar 0)) (eUn (attrD "Table" "_rows") (eVar 1))))))
def f_Table_eq : List D → T D := runB 2 m_Table_eq
def m2_Table_init : MIL := (iChkL (eCall 1 f_need_columns (aCons (eVar 1) aNil)) (iIfL (tNot' (eTest (eCall 2 f_are_rows (aCons (eVar 1) (aCons (eVar 2) aNil))))) (iFldL "_columns" (eVar 1) (iLast "_rows" (lCompLL [3] (iSq 2) (gNm 3) yesT (lComp [4] (iSq 3) (gNm 4) yesT (eCall 1 f_as_ratio (aCons (eVar 4) aNil))))))))
def f2_Table_init : List D → T FL := runIL 4 m2_Table_init
def m2_Table_rows : Rho → T (List (List D)) := (lCompLL [1] (iLst (eUn (attrD "Table" "_rows") (eVar 0))) (gNm 1) yesT (lCa bList (aCons (eVar 1) aNil)))
def f2_Table_rows : List D → T (List (List D)) := runLL 2 m2_Table_rows
def exAll : List Str := ["InvalidColumns", "InvalidRows"]
abbrev s_InvalidColumns_init : Stmt := inClass (topR 4) 0
theorem sc_InvalidColumns_init : FnScope ["self", "value"] ["self", "value"] (defScope s_InvalidColumns_init) := ⟨rfl, rfl, rfl, by decide +kernel, rfl, by decide +kernel, by decide +kernel⟩
abbrev s_InvalidRows_init : Stmt := inClass (topR 11) 0
theorem sc_InvalidRows_init : FnScope ["self", "value"] ["self", "value"] (defScope s_InvalidRows_init) := ⟨rfl, rfl, rfl, by decide +kernel, rfl, by decide +kernel, by decide +kernel⟩
def mx_need_columns : Rho → T (Res Out) := (sIfX (tX (tNot' (eTest (eCall 2 f_is_count_to (aCons (eVar 0) (aCons (eC (.int 3)) aNil)))))) (sRaise "InvalidColumns" ["value"] (aCons (eVar 0) aNil)) (bX bNil))
def fx_need_columns : List D → T (Res D) := runBX 1 mx_need_columns
def mx_Table_init : MIX := (iChkX (eCallX 1 fx_need_columns (aCons (eVar 1) aNil)) (iIfX (tX (tNot' (eTest (eCall 2 f_are_rows (aCons (eVar 1) (aCons (eVar 2) aNil)))))) (sRaise "InvalidRows" ["value"] (aCons (eVar 2) aNil)) (iX (iFld "_columns" (eVar 1) (iFld "_rows" (eL (lComp [3] (iSq 2) (gNm 3) yesT (eL (lComp [4] (iSq 3) (gNm 4) yesT (eCall 1 f_as_ratio (aCons (eVar 4) aNil)))))) iNil)))))
def fx_Table_init : List D → T (Res (List (Str × D))) := runIX 4 mx_Table_init
def tabP_columns : Str → Option (List D → T D) := fun c => bif c == "Table" then some f_Table_columns else none
theorem tabP_columns_Table : tabP_columns "Table" = some f_Table_columns := by with_unfolding_all rfl
def tabP_height : Str → Option (List D → T D) := fun c => bif c == "Table" then some f_Table_height else none
theorem tabP_height_Table : tabP_height "Table" = some f_Table_height := by with_unfolding_all rfl
def tabM_rows : Str → Option (List D → T D) := fun c => bif c == "Table" then some (asD f_Table_rows) else none
theorem tabM_rows_Table : tabM_rows "Table" = some (asD f_Table_rows) := by with_unfolding_all rfl
def eAll : D → D → Option Bool := eOr2 (eCls "Ratio" f_Req) (eCls "Table" f_Table_eq)
abbrev s_need_like_columns : Stmt := topR 23
theorem sc_need_like_columns : FnScope ["first", "second"] ["first", "second"] (defScope s_need_like_columns) := ⟨rfl, rfl, rfl, by decide +kernel, rfl, by decide +kernel, by decide +kernel⟩
def m_need_like_columns : Rho → T Out := (sIf (eTest (eBin opNeF (eProp "Table" f_Table_columns (eVar 0)) (eProp "Table" f_Table_columns (eVar 1)))) sFail bNil)
def f_need_like_columns : List D → T D := runB 2 m_need_like_columns
abbrev s_need_table : Stmt := topR 35
theorem sc_need_table : FnScope ["table"] ["table"] (defScope s_need_table) := ⟨rfl, rfl, rfl, by decide +kernel, rfl, by decide +kernel, by decide +kernel⟩
def m_need_table : Rho → T Out := (sIf (tNot' (eTest (eUn (isOC ["Ratio", "Table"] "Table") (eVar 0)))) sFail bNil)
def f_need_table : List D → T D := runB 1 m_need_table
abbrev s_need_row : Stmt := topR 36
theorem sc_need_row : FnScope ["columns", "row"] ["columns", "row"] (defScope s_need_row) := ⟨rfl, rfl, rfl, by decide +kernel, rfl, by decide +kernel, by decide +kernel⟩
def m_need_row : Rho → T Out := (sIf (tNot' (eTest (eCall 2 f_are_numbers (aCons (eVar 1) (aCons (eVar 0) aNil))))) sFail bNil)
def f_need_row : List D → T D := runB 2 m_need_row
abbrev s_need_position : Stmt := topR 37
theorem sc_need_position : FnScope ["position", "most"] ["position", "most"] (defScope s_need_position) := ⟨rfl, rfl, rfl, by decide +kernel, rfl, by decide +kernel, by decide +kernel⟩
def m_need_position : Rho → T Out := (sIf (tNot' (eTest (eCall 2 f_is_count_to (aCons (eVar 0) (aCons (eVar 1) aNil))))) sFail bNil)
def f_need_position : List D → T D := runB 2 m_need_position
abbrev s_need_place_for_rows : Stmt := topR 38
theorem sc_need_place_for_rows : FnScope ["many"] ["many"] (defScope s_need_place_for_rows) := ⟨rfl, rfl, rfl, by decide +kernel, rfl, by decide +kernel, by decide +kernel⟩
def m_need_place_for_rows : Rho → T Out := (sIf (eTest (eBin opGt (eVar 0) (eC (.int 40)))) sFail bNil)
def f_need_place_for_rows : List D → T D := runB 1 m_need_place_for_rows
abbrev s_joined : Stmt := topR 39
theorem sc_joined : FnScope ["table", "other"] ["table", "other"] (defScope s_joined) := ⟨rfl, rfl, rfl, by decide +kernel, rfl, by decide +kernel, by decide +kernel⟩
def m_joined : Rho → T Out := (bSeq (sExpr (eCall 1 f_need_table (aCons (eVar 0) aNil))) (bSeq (sExpr (eCall 1 f_need_table (aCons (eVar 1) aNil))) (bSeq (sExpr (eCall 2 f_need_like_columns (aCons (eVar 0) (aCons (eVar 1) aNil)))) (bSeq (sExpr (eCall 1 f_need_place_for_rows (aCons (eBin opAdd (eProp "Table" f_Table_height (eVar 0)) (eProp "Table" f_Table_height (eVar 1))) aNil))) (sRet (eMake "Table" 2 [] f_Table_init (aCons (eProp "Table" f_Table_columns (eVar 0)) (aCons (eBin opAdd (eMeth "Table" "rows" 0 (asD f_Table_rows) (eVar 0) aNil) (eMeth "Table" "rows" 0 (asD f_Table_rows) (eVar 1) aNil)) aNil))))))))
def f_joined : List D → T D := runB 2 m_joined
abbrev s_turned : Stmt := topR 40
theorem sc_turned : FnScope ["table"] ["table"] (defScope s_turned) := ⟨rfl, rfl, rfl, by decide +kernel, rfl, by decide +kernel, by decide +kernel⟩
def m_turned : Rho → T Out := (bSeq (sExpr (eCall 1 f_need_table (aCons (eVar 0) aNil))) (sRet (eMake "Table" 2 [] f_Table_init (aCons (eProp "Table" f_Table_columns (eVar 0)) (aCons (eL (lRev (eMeth "Table" "rows" 0 (asD f_Table_rows) (eVar 0) aNil))) aNil)))))
def f_turned : List D → T D := runB 1 m_turned
abbrev s_piece : Stmt := topR 41
theorem sc_piece : FnScope ["table", "low", "high"] ["table", "low", "high"] (defScope s_piece) := ⟨rfl, rfl, rfl, by decide +kernel, rfl, by decide +kernel, by decide +kernel⟩
def m_piece : Rho → T Out := (bSeq (sExpr (eCall 1 f_need_table (aCons (eVar 0) aNil))) (bSeq (sIf (tNot' (eTest (eCall 2 f_is_count_to (aCons (eVar 1) (aCons (eProp "Table" f_Table_height (eVar 0)) aNil))))) sFail bNil) (bSeq (sIf (tOr' (tNot' (eTest (eCall 1 f_is_count (aCons (eVar 2) aNil)))) (tOr' (eTest (eBin opLt (eVar 2) (eVar 1))) (eTest (eBin opGt (eVar 2) (eProp "Table" f_Table_height (eVar 0)))))) sFail bNil) (sRet (eMake "Table" 2 [] f_Table_init (aCons (eProp "Table" f_Table_columns (eVar 0)) (aCons (eSl (eMeth "Table" "rows" 0 (asD f_Table_rows) (eVar 0) aNil) (oPart (eVar 1)) (oPart (eVar 2))) aNil)))))))
def f_piece : List D → T D := runB 3 m_piece
abbrev s_with_row : Stmt := topR 42
theorem sc_with_row : FnScope ["table", "position", "row", "rows"] ["table", "position", "row"] (defScope s_with_row) := ⟨rfl, rfl, rfl, by decide +kernel, rfl, by decide +kernel, by decide +kernel⟩
def m_with_row : Rho → T Out := (bSeq (sExpr (eCall 1 f_need_table (aCons (eVar 0) aNil))) (bSeq (sExpr (eCall 2 f_need_position (aCons (eVar 1) (aCons (eProp "Table" f_Table_height (eVar 0)) aNil)))) (bSeq (sExpr (eCall 2 f_need_row (aCons (eProp "Table" f_Table_columns (eVar 0)) (aCons (eVar 2) aNil)))) (bSeq (sExpr (eCall 1 f_need_place_for_rows (aCons (eBin opAdd (eProp "Table" f_Table_height (eVar 0)) (eC (.int 1))) aNil))) (bSeq (sOwn 3 (lMeth "Table" "rows" f_Table_rows (eVar 0))) (bSeq (sIns 3 (eVar 1) (eVar 2)) (bFreeze 3 (sRet (eMake "Table" 2 [] f_Table_init (aCons (eProp "Table" f_Table_columns (eVar 0)) (aCons (eVar 3) aNil)))))))))))
def f_with_row : List D → T D := runB 4 m_with_row
abbrev s_without_row : Stmt := topR 43
theorem sc_without_row : FnScope ["table", "position", "rows"] ["table", "position"] (defScope s_without_row) := ⟨rfl, rfl, rfl, by decide +kernel, rfl, by decide +kernel, by decide +kernel⟩
def m_without_row : Rho → T Out := (bSeq (sExpr (eCall 1 f_need_table (aCons (eVar 0) aNil))) (bSeq (sExpr (eCall 2 f_need_position (aCons (eVar 1) (aCons (eBin opSub (eProp "Table" f_Table_height (eVar 0)) (eC (.int 1))) aNil)))) (bSeq (sOwn 2 (lMeth "Table" "rows" f_Table_rows (eVar 0))) (bSeq (sDel 2 (eVar 1)) (bFreeze 2 (sRet (eMake "Table" 2 [] f_Table_init (aCons (eProp "Table" f_Table_columns (eVar 0)) (aCons (eVar 2) aNil)))))))))
def f_without_row : List D → T D := runB 3 m_without_row
abbrev s_exchanged : Stmt := topR 44
theorem sc_exchanged : FnScope ["table", "position", "rows"] ["table", "position"] (defScope s_exchanged) := ⟨rfl, rfl, rfl, by decide +kernel, rfl, by decide +kernel, by decide +kernel⟩
def m_exchanged : Rho → T Out := (bSeq (sExpr (eCall 1 f_need_table (aCons (eVar 0) aNil))) (bSeq (sExpr (eCall 2 f_need_position (aCons (eVar 1) (aCons (eBin opSub (eProp "Table" f_Table_height (eVar 0)) (eC (.int 2))) aNil)))) (bSeq (sOwn 2 (lMeth "Table" "rows" f_Table_rows (eVar 0))) (bSeq (sSet2 2 (eVar 1) (eBin opAdd (eVar 1) (eC (.int 1))) (ixOwn 2 (eBin opAdd (eVar 1) (eC (.int 1)))) (ixOwn 2 (eVar 1))) (bFreeze 2 (sRet (eMake "Table" 2 [] f_Table_init (aCons (eProp "Table" f_Table_columns (eVar 0)) (aCons (eVar 2) aNil)))))))))
def f_exchanged : List D → T D := runB 3 m_exchanged
abbrev s__law_pick : Stmt := topR 48
theorem sc__law_pick : FnScope ["_law_pot_here", "_law_some"] ["_law_pot_here", "_law_some"] (defScope s__law_pick) := ⟨rfl, rfl, rfl, by decide +kernel, rfl, by decide +kernel, by decide +kernel⟩
def m__law_pick : Rho → T Out := (sRet (eBin ixD (eVar 1) (eCall 2 f__law_draw (aCons (eVar 0) (aCons (eCa bLen (aCons (eVar 1) aNil)) aNil)))))
def f__law_pick : List D → T D := runB 2 m__law_pick
abbrev s__law_low : Stmt := topR 49
theorem sc__law_low : FnScope ["_law_top", "_law_bottom", "_law_near", "_law_far"] ["_law_top", "_law_bottom"] (defScope s__law_low) := ⟨rfl, rfl, rfl, by decide +kernel, rfl, by decide +kernel, by decide +kernel⟩
def m__law_low : Rho → T Out := (bSeq (sPar 2 3 (eCa bAbs (aCons (eVar 0) aNil)) (eCa bAbs (aCons (eVar 1) aNil))) (bSeq (whT (eTest (eBin opNeF (eVar 3) (eC (.int 0)))) (sPar 2 3 (eVar 3) (eBin opSub (eVar 2) (eBin opMulT (eBin opFDiv (eVar 2) (eVar 3)) (eVar 3)))) 100) (bSeq (sSet 2 (eIf (eTest (eBin opGt (eVar 1) (eC (.int 0)))) (eVar 2) (eBin opSub (eC (.int 0)) (eVar 2)))) (sRet (eTup (aCons (eBin opFDiv (eVar 0) (eVar 2)) (aCons (eBin opFDiv (eVar 1) (eVar 2)) aNil)))))))
def f__law_low : List D → T D := runB 4 m__law_low
abbrev s__law_pair : Stmt := topR 50
theorem sc__law_pair : FnScope ["_law_ratio"] ["_law_ratio"] (defScope s__law_pair) := ⟨rfl, rfl, rfl, by decide +kernel, rfl, by decide +kernel, by decide +kernel⟩
def m__law_pair : Rho → T Out := (sRet (eTup (aCons (eProp "Ratio" f_Rtop (eVar 0)) (aCons (eProp "Ratio" f_Rbottom (eVar 0)) aNil))))
def f__law_pair : List D → T D := runB 1 m__law_pair
abbrev s__law_number : Stmt := topR 51
theorem sc__law_number : FnScope ["_law_pot_here", "_law_pair_here", "_law_top", "_law_bottom"] ["_law_pot_here"] (defScope s__law_number) := ⟨rfl, rfl, rfl, by decide +kernel, rfl, by decide +kernel, by decide +kernel⟩
def m__law_number : Rho → T Out := (bSeq (sPar 2 3 (eBin opSub (eCall 2 f__law_draw (aCons (eVar 0) (aCons (eC (.int 9)) aNil))) (eC (.int 4))) (eCall 2 f__law_pick (aCons (eVar 0) (aCons (eL (lLst (aCons (eC (.int 1)) (aCons (eC (.int 1)) (aCons (eC (.int 1)) (aCons (eC (.int 2)) (aCons (eC (.int 3)) aNil))))))) aNil)))) (bSeq (sSet 1 (eCall 2 f__law_low (aCons (eVar 2) (aCons (eVar 3) aNil)))) (sRet (eTup (aCons (eIf (tAnd' (eTest (eBin opEqF (eBin ixD (eVar 1) (eC (.int 1))) (eC (.int 1)))) (eTest (eBin opEqF (eCall 2 f__law_draw (aCons (eVar 0) (aCons (eC (.int 2)) aNil))) (eC (.int 0))))) (eBin ixD (eVar 1) (eC (.int 0))) (eMake "Ratio" 2 [] f_Ratio_init (aCons (eVar 2) (aCons (eVar 3) aNil)))) (aCons (eVar 1) aNil))))))
def f__law_number : List D → T D := runB 4 m__law_number
abbrev s__law_rows : Stmt := topR 52
theorem sc__law_rows : FnScope ["_law_pot_here", "_law_wide", "_law_height", "_law_turn", "_law_rows_here", "_law_pairs", "_law_column", "_law_row", "_law_told", "_law_number_here", "_law_pair_here"] ["_law_pot_here", "_law_wide", "_law_height"] (defScope s__law_rows) := ⟨rfl, rfl, rfl, by decide +kernel, rfl, by decide +kernel, by decide +kernel⟩
def m__law_rows : Rho → T Out := (bSeq (sParLL 4 5 (lLst aNil) (lLst aNil)) (bSeq (sFor (iRg rng1 (aCons (eVar 2) aNil)) (gNm 3) (bSeq (sParLL 7 8 (lLst aNil) (lLst aNil)) (bSeq (sFor (iRg rng1 (aCons (eVar 1) aNil)) (gNm 6) (bSeq (sAsg (gTp 2 (gsCons (gNm 9) (gsCons (gNm 10) gsNil))) (eCall 1 f__law_number (aCons (eVar 0) aNil))) (bSeq (sApp 7 (eVar 9)) (sApp 8 (eVar 10))))) (bFreeze 7 (bSeq (sApp 4 (eIf (eTest (eBin opEqF (eCall 2 f__law_draw (aCons (eVar 0) (aCons (eC (.int 4)) aNil))) (eC (.int 0)))) (eCa bTuple (aCons (eVar 7) aNil)) (eVar 7))) (bFreeze 8 (sApp 5 (eVar 8)))))))) (bFreeze 4 (bFreeze 5 (sRet (eTup (aCons (eVar 4) (aCons (eVar 5) aNil))))))))
def f__law_rows : List D → T D := runB 11 m__law_rows
abbrev s__law_is : Stmt := topR 53
theorem sc__law_is : FnScope ["_law_table", "_law_wide", "_law_pairs", "_law_told", "_law_row", "_law_number_here"] ["_law_table", "_law_wide", "_law_pairs"] (defScope s__law_is) := ⟨rfl, rfl, rfl, by decide +kernel, rfl, by decide +kernel, by decide +kernel⟩
def m__law_is : Rho → T Out := (bSeq (sOwn 3 (lComp [4] (iLst (eMeth "Table" "rows" 0 (asD f_Table_rows) (eVar 0) aNil)) (gNm 4) yesT (eL (lComp [5] (iLst (eVar 4)) (gNm 5) yesT (eCall 1 f__law_pair (aCons (eVar 5) aNil)))))) (bFreeze 3 (sRet (eAnd (eBin opEqF (eProp "Table" f_Table_columns (eVar 0)) (eVar 1)) (eAnd (eBin opEqF (eProp "Table" f_Table_height (eVar 0)) (eCa bLen (aCons (eVar 2) aNil))) (eBin opEqF (eVar 3) (eVar 2)))))))
def f__law_is : List D → T D := runB 6 m__law_is
abbrev s__law_pieces_right : Stmt := topR 54
theorem sc__law_pieces_right : FnScope ["_law_pot_here", "_law_table", "_law_wide", "_law_pairs", "_law_low_here", "_law_high", "_law_middle", "_law_near", "_law_far"] ["_law_pot_here", "_law_table", "_law_wide", "_law_pairs"] (defScope s__law_pieces_right) := ⟨rfl, rfl, rfl, by decide +kernel, rfl, by decide +kernel, by decide +kernel⟩
def m__law_pieces_right : Rho → T Out := (bSeq (sSet 4 (eCall 2 f__law_draw (aCons (eVar 0) (aCons (eBin opAdd (eCa bLen (aCons (eVar 3) aNil)) (eC (.int 1))) aNil)))) (bSeq (sSet 5 (eBin opAdd (eVar 4) (eCall 2 f__law_draw (aCons (eVar 0) (aCons (eBin opSub (eBin opAdd (eCa bLen (aCons (eVar 3) aNil)) (eC (.int 1))) (eVar 4)) aNil))))) (bSeq (sPar 7 8 (eCall 3 f_piece (aCons (eVar 1) (aCons (eC (.int 0)) (aCons (eVar 4) aNil)))) (eCallK 3 [1, 2, 0] f_piece (aCons (eCa bLen (aCons (eVar 3) aNil)) (aCons (eVar 1) (aCons (eVar 5) aNil))))) (bSeq (sSet 6 (eCall 3 f_piece (aCons (eVar 1) (aCons (eVar 4) (aCons (eVar 5) aNil))))) (bSeq (sIf (tOr' (tNot' (eTest (eCall 3 f__law_is (aCons (eVar 6) (aCons (eVar 2) (aCons (eSl (eVar 3) (oPart (eVar 4)) (oPart (eVar 5))) aNil)))))) (tOr' (tNot' (eTest (eCall 3 f__law_is (aCons (eVar 7) (aCons (eVar 2) (aCons (eSl (eVar 3) oNo (oPart (eVar 4))) aNil)))))) (tNot' (eTest (eCall 3 f__law_is (aCons (eVar 8) (aCons (eVar 2) (aCons (eSl (eVar 3) (oPart (eVar 5)) oNo) aNil)))))))) (sRet (eC (.bl false))) bNil) (sRet (eAnd (eBin (opOr (opEqD false eAll) opEqF (fun x _ => isBig x)) (eCall 2 f_joined (aCons (eCall 2 f_joined (aCons (eVar 7) (aCons (eVar 6) aNil))) (aCons (eVar 8) aNil))) (eVar 1)) (eBin (opOr (opEqD false eAll) opEqF (fun x _ => isBig x)) (eCallK 2 [0, 1] f_joined (aCons (eVar 7) (aCons (eCall 2 f_joined (aCons (eVar 6) (aCons (eVar 8) aNil))) aNil))) (eVar 1)))))))))
def f__law_pieces_right : List D → T D := runB 9 m__law_pieces_right
abbrev s__law_rows_right : Stmt := topR 55
theorem sc__law_rows_right : FnScope ["_law_pot_here", "_law_table", "_law_wide", "_law_pairs", "_law_row", "_law_told", "_law_at", "_law_more", "_law_position", "_law_late"] ["_law_pot_here", "_law_table", "_law_wide", "_law_pairs", "_law_row", "_law_told"] (defScope s__law_rows_right) := ⟨rfl, rfl, rfl, by decide +kernel, rfl, by decide +kernel, by decide +kernel⟩
def m__law_rows_right : Rho → T Out := (bSeq (sSet 6 (eCall 2 f__law_draw (aCons (eVar 0) (aCons (eBin opAdd (eCa bLen (aCons (eVar 3) aNil)) (eC (.int 1))) aNil)))) (bSeq (sSet 7 (eCall 3 f_with_row (aCons (eVar 1) (aCons (eVar 6) (aCons (eVar 4) aNil))))) (bSeq (sIf (tOr' (tNot' (eTest (eCall 3 f__law_is (aCons (eVar 7) (aCons (eVar 2) (aCons (eBin opAdd (eBin opAdd (eSl (eVar 3) oNo (oPart (eVar 6))) (eL (lLst (aCons (eVar 5) aNil)))) (eSl (eVar 3) (oPart (eVar 6)) oNo)) aNil)))))) (tOr' (tNot' (eTest (eBin (opOr (opEqD false eAll) opEqF (fun x _ => isBig x)) (eCall 2 f_without_row (aCons (eVar 7) (aCons (eVar 6) aNil))) (eVar 1)))) (tNot' (eTest (eBin (opOr (opEqD false eAll) opEqF (fun x _ => isBig x)) (eCallK 3 [2, 1, 0] f_with_row (aCons (eL (lCa bList (aCons (eVar 4) aNil))) (aCons (eVar 6) (aCons (eVar 1) aNil)))) (eVar 7)))))) (sRet (eC (.bl false))) bNil) (bSeq (sFor (iRg rng1 (aCons (eCa bLen (aCons (eVar 3) aNil)) aNil)) (gNm 8) (bSeq (sIf (tNot' (eTest (eCall 3 f__law_is (aCons (eCall 2 f_without_row (aCons (eVar 1) (aCons (eVar 8) aNil))) (aCons (eVar 2) (aCons (eBin opAdd (eSl (eVar 3) oNo (oPart (eVar 8))) (eSl (eVar 3) (oPart (eBin opAdd (eVar 8) (eC (.int 1)))) oNo)) aNil)))))) (sRet (eC (.bl false))) bNil) (sIf (eTest (eBin opLt (eBin opAdd (eVar 8) (eC (.int 1))) (eCa bLen (aCons (eVar 3) aNil)))) (bSeq (sSet 9 (eCall 2 f_exchanged (aCons (eVar 1) (aCons (eVar 8) aNil)))) (sIf (tOr' (tNot' (eTest (eCall 3 f__law_is (aCons (eVar 9) (aCons (eVar 2) (aCons (eBin opAdd (eBin opAdd (eSl (eVar 3) oNo (oPart (eVar 8))) (eL (lLst (aCons (eBin ixD (eVar 3) (eBin opAdd (eVar 8) (eC (.int 1)))) (aCons (eBin ixD (eVar 3) (eVar 8)) aNil))))) (eSl (eVar 3) (oPart (eBin opAdd (eVar 8) (eC (.int 2)))) oNo)) aNil)))))) (tNot' (eTest (eBin (opOr (opEqD false eAll) opEqF (fun x _ => isBig x)) (eCallK 2 [1, 0] f_exchanged (aCons (eVar 8) (aCons (eVar 9) aNil))) (eVar 1))))) (sRet (eC (.bl false))) bNil)) bNil))) (sRet (eC (.bl true)))))))
def f__law_rows_right : List D → T D := runB 10 m__law_rows_right
abbrev s__law_is_number : Stmt := topR 56
theorem sc__law_is_number : FnScope ["_law_value"] ["_law_value"] (defScope s__law_is_number) := ⟨rfl, rfl, rfl, by decide +kernel, rfl, by decide +kernel, by decide +kernel⟩
def m__law_is_number : Rho → T Out := (sRet (eOr (eUn (isOC ["Ratio", "Table"] "Ratio") (eVar 0)) (eAnd (eUn (isDY ["Ratio", "Table"] .int) (eVar 0)) (eNot (eUn (isDY ["Ratio", "Table"] .bool) (eVar 0))))))
def f__law_is_number : List D → T D := runB 1 m__law_is_number
abbrev s__law_are_rows : Stmt := topR 57
theorem sc__law_are_rows : FnScope ["_law_wide", "_law_value", "_law_row", "_law_number_here"] ["_law_wide", "_law_value"] (defScope s__law_are_rows) := ⟨rfl, rfl, rfl, by decide +kernel, rfl, by decide +kernel, by decide +kernel⟩
def m__law_are_rows : Rho → T Out := (bSeq (sIf (tOr' (tNot' (eTest (eUn (isD2 ["Ratio", "Table"] .list .tuple) (eVar 1)))) (eTest (eBin opGt (eCa bLen (aCons (eVar 1) aNil)) (eC (.int 40))))) (sRet (eC (.bl false))) bNil) (bSeq (sFor (iSq 1) (gNm 2) (sIf (tOr' (tNot' (eTest (eUn (isD2 ["Ratio", "Table"] .list .tuple) (eVar 2)))) (tOr' (eTest (eBin opNeF (eCa bLen (aCons (eVar 2) aNil)) (eVar 0))) (tNot' (eTest (eCa bAll (aCons (eL (lComp [3] (iSq 2) (gNm 3) yesT (eCall 1 f__law_is_number (aCons (eVar 3) aNil)))) aNil)))))) (sRet (eC (.bl false))) bNil)) (sRet (eC (.bl true)))))
def f__law_are_rows : List D → T D := runB 4 m__law_are_rows
abbrev s__law_heard : Stmt := topR 58
theorem sc__law_heard : FnScope ["_law_wide", "_law_value", "_law_found", "e"] ["_law_wide", "_law_value"] (defScope s__law_heard) := ⟨rfl, rfl, rfl, by decide +kernel, rfl, by decide +kernel, by decide +kernel⟩
def m__law_heard : Rho → T Out := (bSeq (sOwn 2 (lLst (aCons (eC (.str "let")) aNil))) (bSeq (sTry exAll (sExprX (eMakeKX "Table" 2 [1, 0] fx_Table_init (aCons (eVar 1) (aCons (eVar 0) aNil)))) [("InvalidRows", some 3, (cSet 2 (cLst (cCons (cEx (eC (.str "rows"))) (cCons (cCa (bReprR rRat) (cFld "value")) cNil)))))]) (bFreeze 2 (sRet (eVar 2)))))
def f__law_heard : List D → T D := runB 4 m__law_heard
abbrev s__law_any_right : Stmt := topR 59
theorem sc__law_any_right : FnScope ["_law_pot_here", "_law_wide", "_law_rows_here", "_law_odd", "_law_values", "_law_value", "_law_at", "_law_shown"] ["_law_pot_here", "_law_wide", "_law_rows_here"] (defScope s__law_any_right) := ⟨rfl, rfl, rfl, by decide +kernel, rfl, by decide +kernel, by decide +kernel⟩
def m__law_any_right : Rho → T Out := (bSeq (sSet 3 (eCall 2 f__law_pick (aCons (eVar 0) (aCons (eL (lLst (aCons (eC .non) (aCons (eC (.bl true)) (aCons (eC (.bl false)) (aCons (eC (.str "1")) (aCons (eL (lLst (aCons (eC (.int 1)) aNil))) (aCons (eTup aNil) (aCons (eC (.dik [])) aNil))))))))) aNil)))) (bSeq (sOwn 4 (lLst (aCons (eVar 2) (aCons (eCa bTuple (aCons (eVar 2) aNil)) (aCons (eBin opAdd (eVar 2) (eL (lLst (aCons (eL (lRep (eL (lLst (aCons (eC (.int 0)) aNil))) (eBin opAdd (eVar 1) (eC (.int 1))))) aNil)))) (aCons (eBin opAdd (eVar 2) (eL (lLst (aCons (eVar 3) aNil)))) (aCons (eBin opAdd (eVar 2) (eL (lLst (aCons (eL (lRep (eL (lLst (aCons (eVar 3) aNil))) (eVar 1))) aNil)))) (aCons (eL (lRep (eL (lLst (aCons (eL (lRep (eL (lLst (aCons (eC (.int 1)) aNil))) (eVar 1))) aNil))) (eC (.int 40)))) (aCons (eL (lRep (eL (lLst (aCons (eL (lRep (eL (lLst (aCons (eC (.int 1)) aNil))) (eVar 1))) aNil))) (eC (.int 41)))) (aCons (eL (lLst aNil)) (aCons (eTup aNil) (aCons (eL (lLst (aCons (eL (lLst aNil)) aNil))) (aCons (eL (lLst (aCons (eL (lLst aNil)) (aCons (eL (lLst aNil)) aNil)))) aNil))))))))))))) (bSeq (sIf (tAnd' (eTest (eBin (opOr (opEqD true eAll) opNeF (fun x _ => isBig x)) (eVar 2) (eL (lLst aNil)))) (eTest (eBin opGt (eVar 1) (eC (.int 0))))) (bSeq (sSet 6 (eCall 2 f__law_draw (aCons (eVar 0) (aCons (eCa bLen (aCons (eVar 2) aNil)) aNil)))) (bSeq (sApp 4 (eBin opAdd (eBin opAdd (eSl (eVar 2) oNo (oPart (eVar 6))) (eL (lLst (aCons (eSl (eL (lCa bList (aCons (eBin ixD (eVar 2) (eVar 6)) aNil))) oNo (oPart (eUn uNeg (eC (.int 1))))) aNil)))) (eSl (eVar 2) (oPart (eBin opAdd (eVar 6) (eC (.int 1)))) oNo))) (sApp 4 (eBin opAdd (eBin opAdd (eSl (eVar 2) oNo (oPart (eVar 6))) (eL (lLst (aCons (eBin opAdd (eSl (eL (lCa bList (aCons (eBin ixD (eVar 2) (eVar 6)) aNil))) oNo (oPart (eUn uNeg (eC (.int 1))))) (eL (lLst (aCons (eVar 3) aNil)))) aNil)))) (eSl (eVar 2) (oPart (eBin opAdd (eVar 6) (eC (.int 1)))) oNo))))) bNil) (bFreeze 4 (bSeq (sFor (iLst (eBin opAdd (eVar 4) (eL (lLst (aCons (eC .non) (aCons (eC (.int 0)) (aCons (eC (.bl true)) (aCons (eC (.str "")) (aCons (eC (.str "1")) (aCons (eC (.dik [])) (aCons (eC (.dik [(0, 1)])) (aCons (eL (lLst (aCons (eC (.int 0)) aNil))) (aCons (eL (lLst (aCons (eC .non) aNil))) (aCons (eL (lLst (aCons (eMake "Ratio" 1 [.int 1] f_Ratio_init (aCons (eC (.int 1)) aNil)) aNil))) (aCons (eMake "Ratio" 1 [.int 1] f_Ratio_init (aCons (eC (.int 1)) aNil)) aNil))))))))))))))) (gNm 5) (bSeq (sSet 7 (eCa (bReprR rRat) (aCons (eVar 5) aNil))) (sIf (tOr' (eTest (eBin (opOr (opEqD true eAll) opNeF (fun x _ => isBig x)) (eCall 2 f__law_heard (aCons (eVar 1) (aCons (eVar 5) aNil))) (eIf (eTest (eCall 2 f__law_are_rows (aCons (eVar 1) (aCons (eVar 5) aNil)))) (eL (lLst (aCons (eC (.str "let")) aNil))) (eL (lLst (aCons (eC (.str "rows")) (aCons (eVar 7) aNil))))))) (eTest (eBin (opOr (opEqD true eAll) opNeF (fun x _ => isBig x)) (eCa (bReprR rRat) (aCons (eVar 5) aNil)) (eVar 7)))) (sRet (eC (.bl false))) bNil))) (sRet (eC (.bl true))))))))
def f__law_any_right : List D → T D := runB 8 m__law_any_right
abbrev s_law : Stmt := topR 60
theorem sc_law : FnScope ["_law_script", "_law_pot_here", "_law_wide", "_law_other", "_law_given", "_law_kept", "_law_row", "_law_rows_here", "_law_pairs", "_law_more", "_law_others", "_law_shown", "_law_table", "_law_one", "_law_told"] ["_law_script"] (defScope s_law) := ⟨rfl, rfl, rfl, by decide +kernel, rfl, by decide +kernel, by decide +kernel⟩
def m_law : Rho → T Out := (bSeq (sSet 2 (eCall 2 f__law_draw (aCons (eVar 1) (aCons (eC (.int 4)) aNil)))) (bSeq (sAsg (gTp 2 (gsCons (gNm 7) (gsCons (gNm 8) gsNil))) (eCall 3 f__law_rows (aCons (eVar 1) (aCons (eVar 2) (aCons (eCall 2 f__law_draw (aCons (eVar 1) (aCons (eC (.int 6)) aNil))) aNil))))) (bSeq (sAsg (gTp 2 (gsCons (gNm 9) (gsCons (gNm 10) gsNil))) (eCall 3 f__law_rows (aCons (eVar 1) (aCons (eVar 2) (aCons (eCall 2 f__law_draw (aCons (eVar 1) (aCons (eC (.int 5)) aNil))) aNil))))) (bSeq (sPar 11 12 (eCa (bReprR rRat) (aCons (eVar 7) aNil)) (eMake "Table" 2 [] f_Table_init (aCons (eVar 2) (aCons (eIf (eTest (eBin (opOr (opEqD false eAll) opEqF (fun x _ => isBig x)) (eCall 2 f__law_draw (aCons (eVar 1) (aCons (eC (.int 2)) aNil))) (eC (.int 0)))) (eVar 7) (eCa bTuple (aCons (eVar 7) aNil))) aNil)))) (bSeq (sSet 3 (eMakeK "Table" 2 [1, 0] f_Table_init (aCons (eVar 9) (aCons (eVar 2) aNil)))) (bSeq (sLend 4 5 6 "Table" "_rows" f2_Table_init (lCompLL [6] (iLst (eVar 7)) (gNm 6) yesT (lCa bList (aCons (eVar 6) aNil))) (eVar 2)) (bSeq (sIf (tNot' (eTest (eCall 3 f__law_is (aCons (eVar 5) (aCons (eVar 2) (aCons (eVar 8) aNil)))))) (sRet (eC (.bl false))) bNil) (bSeq (sIf (tOr' (tNot' (eTest (eCall 3 f__law_is (aCons (eVar 12) (aCons (eVar 2) (aCons (eVar 8) aNil)))))) (tOr' (eTest (eBin (opOr (opEqD true eAll) opNeF (fun x _ => isBig x)) (eCa (bReprR rRat) (aCons (eVar 7) aNil)) (eVar 11))) (tOr' (tNot' (eTest (eCall 3 f__law_is (aCons (eCall 2 f_joined (aCons (eVar 12) (aCons (eVar 3) aNil))) (aCons (eVar 2) (aCons (eBin opAdd (eVar 8) (eVar 10)) aNil)))))) (tNot' (eTest (eCall 3 f__law_is (aCons (eCall 1 f_turned (aCons (eVar 12) aNil)) (aCons (eVar 2) (aCons (eL (lRev (eVar 8))) aNil))))))))) (sRet (eC (.bl false))) bNil) (bSeq (sIf (tOr' (tNot' (eTest (eBin (opOr (opEqD false eAll) opEqF (fun x _ => isBig x)) (eCall 1 f_turned (aCons (eCall 1 f_turned (aCons (eVar 12) aNil)) aNil)) (eVar 12)))) (tNot' (eTest (eBin (opOr (opEqD false eAll) opEqF (fun x _ => isBig x)) (eCall 1 f_turned (aCons (eCall 2 f_joined (aCons (eVar 12) (aCons (eVar 3) aNil))) aNil)) (eCall 2 f_joined (aCons (eCall 1 f_turned (aCons (eVar 3) aNil)) (aCons (eCall 1 f_turned (aCons (eVar 12) aNil)) aNil))))))) (sRet (eC (.bl false))) bNil) (bSeq (sSpoil 6 (llMeth "Table" "rows" f2_Table_rows (eVar 12))) (bSeq (sSpoilE (llMeth "Table" "rows" f2_Table_rows (eVar 12)) (eL (lLst aNil))) (bSeq (sIf (tOr' (tNot' (eTest (eCall 3 f__law_is (aCons (eVar 12) (aCons (eVar 2) (aCons (eVar 8) aNil)))))) (tNot' (eTest (eBin (opOr (opEqD false eAll) opEqF (fun x _ => isBig x)) (eVar 12) (eMake "Table" 2 [] f_Table_init (aCons (eVar 2) (aCons (eL (lComp [6] (iLst (eVar 8)) (gNm 6) yesT (eL (lComp [13] (iLst (eVar 6)) (gNm 13) yesT (eMake "Ratio" 2 [] f_Ratio_init (aCons (eBin ixD (eVar 13) (eC (.int 0))) (aCons (eBin ixD (eVar 13) (eC (.int 1))) aNil))))))) aNil))))))) (sRet (eC (.bl false))) bNil) (bSeq (sIf (eTest (eBin (opOr (opEqD true eAll) opNeF (fun x _ => isBig x)) (eCa (bReprR rRat) (aCons (eL (lLst (aCons (eBin (cmpAny "Table" opEqF f_Table_eq) (eVar 12) (eVar 3)) (aCons (eBin (cmpLst "Table" f_Table_eq) (eVar 12) (eVar 7)) (aCons (eBin (cmpAny "Table" opEqF f_Table_eq) (eVar 12) (eMake "Table" 2 [] f_Table_init (aCons (eBin opMod (eBin opAdd (eVar 2) (eC (.int 1))) (eC (.int 4))) (aCons (eL (lLst aNil)) aNil)))) aNil))))) aNil)) (eCa (bReprR rRat) (aCons (eL (lLst (aCons (eBin (opOr (opEqD false eAll) opEqF (fun x _ => isBig x)) (eVar 8) (eVar 10)) (aCons (eC (.bl false)) (aCons (eC (.bl false)) aNil))))) aNil)))) (sRet (eC (.bl false))) bNil) (bSeq (sAsg (gTp 2 (gsCons (gNm 13) (gsCons (gNm 14) gsNil))) (eCall 3 f__law_rows (aCons (eVar 1) (aCons (eVar 2) (aCons (eC (.int 1)) aNil))))) (bSeq (sIf (tOr' (tNot' (eTest (eCall 4 f__law_pieces_right (aCons (eVar 1) (aCons (eVar 12) (aCons (eVar 2) (aCons (eVar 8) aNil))))))) (tNot' (eTest (eCall 6 f__law_rows_right (aCons (eVar 1) (aCons (eVar 12) (aCons (eVar 2) (aCons (eVar 8) (aCons (eBin ixD (eVar 13) (eC (.int 0))) (aCons (eBin ixD (eVar 14) (eC (.int 0))) aNil)))))))))) (sRet (eC (.bl false))) bNil) (sRet (eCall 3 f__law_any_right (aCons (eVar 1) (aCons (eVar 2) (aCons (eVar 7) aNil))))))))))))))))))))
def f_law : List D → T D := runB 15 m_law
/-- what stands around -/
structure Wd0 (P : Program) (w : World) (K : PySem.W.Frag) (mg : Str → Option Value) (base : Heap) : Prop where
  mk1 : PmC P w K mg base "Ratio" 2 1 [.int 1] f_Ratio_init
  mk2 : PmC P w K mg base "Ratio" 2 2 [] f_Ratio_init
  kn : KnownC K ["Ratio", "Table"]
  ic_Ratio : IcP K mg "Ratio"
  df_Ratio : DfP K ["Ratio", "Table"] "Ratio"
  ic_Table : IcP K mg "Table"
  df_Table : DfP K ["Ratio", "Table"] "Table"
  at_Table_columns : AtP K "Table" "_columns"
  at_Table_rows : AtP K "Table" "_rows"
  p_top : PmP P w K mg base "Ratio" "top" 1 f_Rtop
  p_bottom : PmP P w K mg base "Ratio" "bottom" 1 f_Rbottom
  tx : TxP P w K mg base 1 rRat
  eq1 : EqP P w K mg base 1 eRat
  z_abs : mg "abs" = none
  z_all : mg "all" = none
  z_bool : mg "bool" = none
  z_int : mg "int" = none
  z_isinstance : mg "isinstance" = none
  z_len : mg "len" = none
  z_list : mg "list" = none
  z_range : mg "range" = none
  z_repr : mg "repr" = none
  z_tuple : mg "tuple" = none
  ex_InvalidColumns : PmExc P w K mg base "InvalidColumns" ["value"] 1
  ex_InvalidRows : PmExc P w K mg base "InvalidRows" ["value"] 1
  ei_InvalidRows : PmI K mg "InvalidRows" ["value"]
  xt : exTab K exAll ["InvalidRows"] = true
  txa : TxA P w K mg base 1 rRat
  c_MOST_COLUMNS : ∃ t, mg "MOST_COLUMNS" = some (.int 3 t)
  c_MOST_ROWS : ∃ t, mg "MOST_ROWS" = some (.int 40 t)
/-- .. and the classes -/
structure Wd (P : Program) (w : World) (K : PySem.W.Frag) (mg : Str → Option Value) (base : Heap) : Prop extends Wd0 P w K mg base where
  mkTable : PmC P w K mg base "Table" 5 2 [] f_Table_init
  mxTable : PmXC P w K mg base "Table" 5 2 [] fx_Table_init
  mxkTable0 : PmXCK P w K mg base "Table" 5 2 ["rows", "columns"] [1, 0] fx_Table_init
  mkkTable : PmCK P w K mg base "Table" 5 2 ["rows", "columns"] [1, 0] f_Table_init
  p_columns : ∀ c F, tabP_columns c = some F → PmP P w K mg base c "columns" 1 F
  p_height : ∀ c F, tabP_height c = some F → PmP P w K mg base c "height" 1 F
  m_rows : ∀ c F, tabM_rows c = some F → PmM P w K mg base c "rows" 1 0 ["self"] F
  mr_Table_rows : PmMR P w K mg base "Table" "rows" 1 ["self"] f_Table_rows
  eq_Table : PmE P w K mg base "Table" .Eq 10 f_Table_eq
  nl_Table : ∀ C, ClsAt K "Table" C → PySem.W.notFirst K C (.type "list") = true
  eq_eAll : EqP P w K mg base 20 eAll
  mrr_Table_rows : PmMRR P w K mg base "Table" "rows" 1 ["self"] f2_Table_rows
  mkF_Table : PmCF P w K mg base "Table" "_rows" 5 f2_Table_init
section
variable {P : Program} {w : World} {K : PySem.W.Frag} {mg : Str → Option Value} {base : Heap} {a_f : Addr} {d_f : FuncData}
theorem gE_InvalidColumns {C : Addr} {B newId initId : String} {bmB : List Value} (T1 : ExM K B newId initId bmB C) (no0 : PySem.W.findIn K (.ref C) "value" = some none) (F : Fun K "__init__" "InvalidColumns.__init__" s_InvalidColumns_init a_f d_f) : FnOk P w K mg base CX0 1 a_f d_f ["self", "value"] (spE C ["value"]) := initE1 T1 no0 F sc_InvalidColumns_init fun _ _ _ _ _ _ => pss_one (ps_ex (pv 0) (pv 1))
theorem gE_InvalidRows {C : Addr} {B newId initId : String} {bmB : List Value} (T1 : ExM K B newId initId bmB C) (no0 : PySem.W.findIn K (.ref C) "value" = some none) (F : Fun K "__init__" "InvalidRows.__init__" s_InvalidRows_init a_f d_f) : FnOk P w K mg base CX0 1 a_f d_f ["self", "value"] (spE C ["value"]) := initE1 T1 no0 F sc_InvalidRows_init fun _ _ _ _ _ _ => pss_one (ps_ex (pv 0) (pv 1))
theorem g_is_count (F : Fun K "is_count" "is_count" s_is_count a_f d_f) (W : Wd0 P w K mg base) (p_is_integer : Pm P w K mg base "is_integer" 1 1 ["value"] f_is_integer) : FnOk P w K mg base CX0 2 a_f d_f ["value"] (spD K P w 1 f_is_count) := by
  have nd := sc_is_count.nd
  refine fn_ok (n := 1) (p := 1) (m := m_is_count) (k := 1) F sc_is_count rfl rfl rfl (fun cdv A outer s H E hr => ?_)
  exact (b_one (ss_ret (s_and (s_callP p_is_integer (hr.mono (by decide)) (sa_cons (sv 0) sa_nil)) (s_one (s_cmp os_ge (sv 0) s_int (nomark _))))))
theorem g_is_count_to (F : Fun K "is_count_to" "is_count_to" s_is_count_to a_f d_f) (W : Wd0 P w K mg base) (p_is_count : Pm P w K mg base "is_count" 2 1 ["value"] f_is_count) : FnOk P w K mg base CX0 3 a_f d_f ["value", "most"] (spD K P w 2 f_is_count_to) := by
  have nd := sc_is_count_to.nd
  refine fn_ok (n := 2) (p := 2) (m := m_is_count_to) (k := 2) F sc_is_count_to rfl rfl rfl (fun cdv A outer s H E hr => ?_)
  exact (b_one (ss_ret (s_and (s_callP p_is_count (hr.mono (by decide)) (sa_cons (sv 0) sa_nil)) (s_one (s_cmp os_le (sv 0) (sv 1) (nomark _))))))
theorem g_is_list (F : Fun K "is_list" "is_list" s_is_list a_f d_f) (W : Wd0 P w K mg base)  : FnOk P w K mg base CX0 1 a_f d_f ["value"] (spD K P w 1 f_is_list) := by
  have nd := sc_is_list.nd
  refine fn_ok (n := 1) (p := 1) (m := m_is_list) (k := 0) F sc_is_list rfl rfl rfl (fun cdv A outer s H E hr => ?_)
  exact (b_one (ss_ret (s_isinst2 ["Ratio", "Table"] (k1 := .list) (k2 := .tuple) W.kn W.z_isinstance W.z_list W.z_tuple (by decide +kernel) (by decide +kernel) (sv 0))))
theorem g_need_columns (F : Fun K "need_columns" "need_columns" s_need_columns a_f d_f) (W : Wd0 P w K mg base) (p_is_count_to : Pm P w K mg base "is_count_to" 3 2 ["value", "most"] f_is_count_to) : FnOk P w K mg base CX0 4 a_f d_f ["columns"] (spD K P w 1 f_need_columns) := by
  have nd := sc_need_columns.nd
  refine fn_ok (n := 1) (p := 1) (m := m_need_columns) (k := 3) F sc_need_columns rfl rfl rfl (fun cdv A outer s H E hr => ?_)
  exact (b_one (ss_if (st_not (st_val (s_callP p_is_count_to (hr.mono (by decide)) (sa_cons (sv 0) (sa_cons (s_globI W.c_MOST_COLUMNS) sa_nil))))) (b_one ss_fail) b_nil))
theorem g_as_ratio (F : Fun K "as_ratio" "as_ratio" s_as_ratio a_f d_f) (W : Wd0 P w K mg base)  : FnOk P w K mg base CX0 4 a_f d_f ["number"] (spD K P w 1 f_as_ratio) := by
  have nd := sc_as_ratio.nd
  refine fn_ok (n := 1) (p := 1) (m := m_as_ratio) (k := 3) F sc_as_ratio rfl rfl rfl (fun cdv A outer s H E hr => ?_)
  exact (b_cons (ss_if (st_val (s_isinstG ["Ratio", "Table"] W.kn W.ic_Ratio W.df_Ratio W.z_isinstance (sv 0))) (b_one (ss_ret (sv 0))) b_nil) (b_one (ss_ret (s_makeP W.mk1 (hr.mono (by decide)) (sa_cons (sv 0) sa_nil)))))
theorem g_are_numbers (F : Fun K "are_numbers" "are_numbers" s_are_numbers a_f d_f) (W : Wd0 P w K mg base) (p_is_list : Pm P w K mg base "is_list" 1 1 ["value"] f_is_list) (p_is_number : Pm P w K mg base "is_number" 2 1 ["value"] f_is_number) : FnOk P w K mg base CX0 3 a_f d_f ["value", "many"] (spD K P w 2 f_are_numbers) := by
  have nd := sc_are_numbers.nd
  refine fn_ok (n := 3) (p := 2) (m := m_are_numbers) (k := 2) F sc_are_numbers rfl rfl rfl (fun cdv A outer s H E hr => ?_)
  exact (b_one (ss_ret (s_and (s_callP p_is_list (hr.mono (by decide)) (sa_cons (sv 0) sa_nil)) (s_and (s_cmp (os_eqF hr.units) (s_callB cs_len W.z_len (by decide +kernel) (sa_cons (sv 0) sa_nil)) (sv 1) (nomark _)) (s_one (s_callB (cs_all rfl) W.z_all (by decide +kernel) (sa_cons (s_ofL (sl_comp [("number", 2)] rfl rfl nd (blkOk_by (N := ["value", "many", "number"]) (sc := defScope s_are_numbers) (by decide +kernel)) (si_sq 0) (fun _ _ _ _ _ => (gw_name nd (by decide))) (fun _ _ _ _ _ => ts_nil) (fun _ _ _ _ _ => (s_callP p_is_number (hr.mono (by decide)) (sa_cons (sv 2) sa_nil))))) sa_nil)))))))
theorem g_are_rows (F : Fun K "are_rows" "are_rows" s_are_rows a_f d_f) (W : Wd0 P w K mg base) (p_are_numbers : Pm P w K mg base "are_numbers" 3 2 ["value", "many"] f_are_numbers) (p_is_list : Pm P w K mg base "is_list" 1 1 ["value"] f_is_list) : FnOk P w K mg base CX0 4 a_f d_f ["columns", "value"] (spD K P w 2 f_are_rows) := by
  have nd := sc_are_rows.nd
  refine fn_ok (n := 3) (p := 2) (m := m_are_rows) (k := 3) F sc_are_rows rfl rfl rfl (fun cdv A outer s H E hr => ?_)
  exact (b_cons (ss_if (st_w (sw_or (st_not (st_val (s_callP p_is_list (hr.mono (by decide)) (sa_cons (sv 1) sa_nil)))) (sw_or1 (st_cmp os_gt (s_callB cs_len W.z_len (by decide +kernel) (sa_cons (sv 1) sa_nil)) (s_globI W.c_MOST_ROWS) (nomark _))))) (b_one (ss_ret s_bl)) b_nil) (b_one (ss_ret (s_callB (cs_all rfl) W.z_all (by decide +kernel) (sa_cons (s_ofL (sl_comp [("row", 2)] rfl rfl nd (blkOk_by (N := ["columns", "value", "row"]) (sc := defScope s_are_rows) (by decide +kernel)) (si_sq 1) (fun _ _ _ _ _ => (gw_name nd (by decide))) (fun _ _ _ _ _ => ts_nil) (fun _ _ _ _ _ => (s_callP p_are_numbers (hr.mono (by decide)) (sa_cons (sv 2) (sa_cons (sv 0) sa_nil)))))) sa_nil)))))
theorem g_Table_init {C : Addr} (F : FunD K "__init__" "Table.__init__" (defArgs s_Table_init) (defBody s_Table_init) (defScope s_Table_init) [] [] a_f d_f) (cl : Cls K C) (at_ : ClsAt K "Table" C) (W : Wd0 P w K mg base) (p_are_rows : Pm P w K mg base "are_rows" 4 2 ["columns", "value"] f_are_rows) (p_as_ratio : Pm P w K mg base "as_ratio" 4 1 ["number"] f_as_ratio) (p_need_columns : Pm P w K mg base "need_columns" 4 1 ["columns"] f_need_columns) : FnOk P w K mg base CX0 5 a_f d_f ["self", "columns", "rows"] (spI K P w "Table" 2 f_Table_init) := by
  have nd := sc_Table_init.nd
  refine init_ok (n := 4) (p := 2) (ki := m_Table_init) (k := 4) F sc_Table_init rfl rfl cl at_ (fun cdv A outer s H E hr => ?_)
  exact (in_chk (s_callP p_need_columns (hr.mono (by decide)) (sa_cons (sv 1) sa_nil)) (in_if (st_not (st_val (s_callP p_are_rows (hr.mono (by decide)) (sa_cons (sv 1) (sa_cons (sv 2) sa_nil))))) (in_fld (sv 1) (in_fld (s_ofL (sl_comp [("row", 3)] rfl rfl nd (blkOk_by (N := ["self", "columns", "rows", "row", "number"]) (sc := defScope s_Table_init) (by decide +kernel)) (si_sq 2) (fun _ _ _ _ _ => (gw_name nd (by decide))) (fun _ _ _ _ _ => ts_nil) (fun _ _ _ _ _ => (s_ofL (sl_comp [("number", 4)] rfl rfl nd (blkOk_by (by with_unfolding_all rfl)) (si_sq 3) (fun _ _ _ _ _ => (gw_name nd (by decide))) (fun _ _ _ _ _ => ts_nil) (fun _ _ _ _ _ => (s_callP p_as_ratio (hr.mono (by decide)) (sa_cons (sv 4) sa_nil)))))))) in_nil W.at_Table_rows.no) W.at_Table_columns.no)))
theorem g_Table_columns (F : Fun K "columns" "Table.columns" s_Table_columns a_f d_f) (W : Wd0 P w K mg base)  : FnOk P w K mg base CX0 1 a_f d_f ["self"] (spD K P w 1 f_Table_columns) := by
  have nd := sc_Table_columns.nd
  refine fn_ok (n := 1) (p := 1) (m := m_Table_columns) (k := 0) F sc_Table_columns rfl rfl rfl (fun cdv A outer s H E hr => ?_)
  exact (b_one (ss_ret (s_attrP W.at_Table_columns (sv 0))))
theorem g_Table_height (F : Fun K "height" "Table.height" s_Table_height a_f d_f) (W : Wd0 P w K mg base)  : FnOk P w K mg base CX0 1 a_f d_f ["self"] (spD K P w 1 f_Table_height) := by
  have nd := sc_Table_height.nd
  refine fn_ok (n := 1) (p := 1) (m := m_Table_height) (k := 0) F sc_Table_height rfl rfl rfl (fun cdv A outer s H E hr => ?_)
  exact (b_one (ss_ret (s_callB cs_len W.z_len (by decide +kernel) (sa_cons (s_attrP W.at_Table_rows (sv 0)) sa_nil))))
theorem g_Table_rows (F : Fun K "rows" "Table.rows" s_Table_rows a_f d_f) (W : Wd0 P w K mg base)  : FnOk P w K mg base CX0 1 a_f d_f ["self"] (spR K P w 1 f_Table_rows) := by
  have nd := sc_Table_rows.nd
  refine fnL_ok (n := 2) (p := 1) (ml := m_Table_rows) (k := 0) F sc_Table_rows rfl rfl rfl (fun cdv A outer s H E hr => ?_)
  exact (bl_ret (sl_comp [("row", 1)] rfl rfl nd (blkOk_by (N := ["self", "row"]) (sc := defScope s_Table_rows) (by decide +kernel)) (si_list (s_attrP W.at_Table_rows (sv 0))) (fun _ _ _ _ _ => (gw_name nd (by decide))) (fun _ _ _ _ _ => ts_nil) (fun _ _ _ _ _ => (s_ofL (sl_callTy cs_list W.z_list (by decide +kernel) (sa_cons (sv 1) sa_nil))))))
theorem g_Table_eq (F : Fun K "__eq__" "Table.__eq__" s_Table_eq a_f d_f) (W : Wd0 P w K mg base)  : FnOk P w K mg base CX0 10 a_f d_f ["self", "other"] (spD K P w 2 f_Table_eq) := by
  have nd := sc_Table_eq.nd
  refine fn_ok (n := 2) (p := 2) (m := m_Table_eq) (k := 9) F sc_Table_eq rfl rfl rfl (fun cdv A outer s H E hr => ?_)
  exact (b_one (ss_ret (s_and (s_isinstG ["Ratio", "Table"] W.kn W.ic_Table W.df_Table W.z_isinstance (sv 1)) (s_and (s_cmp (os_or (os_eqD false (EqP.ok W.eq1) (hr.mono (by decide))) (os_eqF hr.units)) (s_attrP W.at_Table_columns (sv 0)) (s_attrP W.at_Table_columns (sv 1)) (nomark _)) (s_one (s_cmp (os_or (os_eqD false (EqP.ok W.eq1) (hr.mono (by decide))) (os_eqF hr.units)) (s_attrP W.at_Table_rows (sv 0)) (s_attrP W.at_Table_rows (sv 1)) (nomark _)))))))
theorem gx_need_columns (F : Fun K "need_columns" "need_columns" s_need_columns a_f d_f) (W : Wd0 P w K mg base) (p_is_count_to : Pm P w K mg base "is_count_to" 3 2 ["value", "most"] f_is_count_to) : FnOk P w K mg base (L2.CX P w) 4 a_f d_f ["columns"] (spX K P w 1 fx_need_columns) := by
  have nd := sc_need_columns.nd
  refine fnX_ok (n := 1) (p := 1) (m := mx_need_columns) (k := 3) F sc_need_columns rfl rfl rfl (fun cdv A outer s H E hr tk => ?_)
  exact (bx_one (ssx_if (stx_of (st_not (st_val (s_callP p_is_count_to (hr.mono (by decide)) (sa_cons (sv 0) (sa_cons (s_globI W.c_MOST_COLUMNS) sa_nil)))))) (bx_one (ssx_raiseP rfl tk W.ex_InvalidColumns (hr.mono (by decide)) (sa_cons (sv 0) sa_nil))) (bx_of b_nil)))
theorem gx_Table_init {C : Addr} (F : FunD K "__init__" "Table.__init__" (defArgs s_Table_init) (defBody s_Table_init) (defScope s_Table_init) [] [] a_f d_f) (cl : Cls K C) (at_ : ClsAt K "Table" C) (W : Wd0 P w K mg base) (p_are_rows : Pm P w K mg base "are_rows" 4 2 ["columns", "value"] f_are_rows) (p_as_ratio : Pm P w K mg base "as_ratio" 4 1 ["number"] f_as_ratio) (px_need_columns : PmX P w K mg base "need_columns" 4 1 ["columns"] fx_need_columns) : FnOk P w K mg base (L2.CX P w) 5 a_f d_f ["self", "columns", "rows"] (spIX K P w "Table" 2 fx_Table_init) := by
  have nd := sc_Table_init.nd
  refine initX_ok (n := 4) (p := 2) (ki := mx_Table_init) (k := 4) F sc_Table_init rfl rfl cl at_ (fun cdv A outer s H E hr tk => ?_)
  exact (inx_chk (sx_callP tk px_need_columns (hr.mono (by decide)) (sa_cons (sv 1) sa_nil)) (inx_if (stx_of (st_not (st_val (s_callP p_are_rows (hr.mono (by decide)) (sa_cons (sv 1) (sa_cons (sv 2) sa_nil)))))) (bx_one (ssx_raiseP rfl tk W.ex_InvalidRows (hr.mono (by decide)) (sa_cons (sv 2) sa_nil))) (inx_of (in_fld (sv 1) (in_fld (s_ofL (sl_comp [("row", 3)] rfl rfl nd (blkOk_by (N := ["self", "columns", "rows", "row", "number"]) (sc := defScope s_Table_init) (by decide +kernel)) (si_sq 2) (fun _ _ _ _ _ => (gw_name nd (by decide))) (fun _ _ _ _ _ => ts_nil) (fun _ _ _ _ _ => (s_ofL (sl_comp [("number", 4)] rfl rfl nd (blkOk_by (by with_unfolding_all rfl)) (si_sq 3) (fun _ _ _ _ _ => (gw_name nd (by decide))) (fun _ _ _ _ _ => ts_nil) (fun _ _ _ _ _ => (s_callP p_as_ratio (hr.mono (by decide)) (sa_cons (sv 4) sa_nil)))))))) in_nil W.at_Table_rows.no) W.at_Table_columns.no))))
theorem g2_Table_init {C : Addr} (F : FunD K "__init__" "Table.__init__" (defArgs s_Table_init) (defBody s_Table_init) (defScope s_Table_init) [] [] a_f d_f) (cl : Cls K C) (at_ : ClsAt K "Table" C) (W : Wd0 P w K mg base) (p_are_rows : Pm P w K mg base "are_rows" 4 2 ["columns", "value"] f_are_rows) (p_as_ratio : Pm P w K mg base "as_ratio" 4 1 ["number"] f_as_ratio) (p_need_columns : Pm P w K mg base "need_columns" 4 1 ["columns"] f_need_columns) : FnOk P w K mg base CX0 5 a_f d_f ["self", "columns", "rows"] (spIF K P w "Table" "_rows" 2 f2_Table_init) := by
  have nd := sc_Table_init.nd
  refine init_okL (n := 4) (p := 2) (ki := m2_Table_init) (k := 4) F sc_Table_init rfl rfl cl at_ (fun cdv A outer s H E hr => ?_)
  exact (inl_chk (s_callP p_need_columns (hr.mono (by decide)) (sa_cons (sv 1) sa_nil)) (inl_if (st_not (st_val (s_callP p_are_rows (hr.mono (by decide)) (sa_cons (sv 1) (sa_cons (sv 2) sa_nil))))) (inl_fld (sv 1) (inl_last (sll_comp [("row", 3)] rfl rfl nd (blkOk_by (N := ["self", "columns", "rows", "row", "number"]) (sc := defScope s_Table_init) (by decide +kernel)) (si_sq 2) (fun _ _ _ _ _ => (gw_name nd (by decide))) (fun _ _ _ _ _ => ts_nil) (fun _ _ _ _ _ => (sl_comp [("number", 4)] rfl rfl nd (blkOk_by (by with_unfolding_all rfl)) (si_sq 3) (fun _ _ _ _ _ => (gw_name nd (by decide))) (fun _ _ _ _ _ => ts_nil) (fun _ _ _ _ _ => (s_callP p_as_ratio (hr.mono (by decide)) (sa_cons (sv 4) sa_nil)))))) W.at_Table_rows.no) W.at_Table_columns.no)))
theorem g2_Table_rows (F : Fun K "rows" "Table.rows" s_Table_rows a_f d_f) (W : Wd0 P w K mg base)  : FnOk P w K mg base CX0 1 a_f d_f ["self"] (spRR K P w 1 f2_Table_rows) := by
  have nd := sc_Table_rows.nd
  refine fnLL_ok (n := 2) (p := 1) (ml := m2_Table_rows) (k := 0) F sc_Table_rows rfl rfl rfl (fun cdv A outer s H E hr => ?_)
  exact (bll_ret (sll_comp [("row", 1)] rfl rfl nd (blkOk_by (N := ["self", "row"]) (sc := defScope s_Table_rows) (by decide +kernel)) (si_list (s_attrP W.at_Table_rows (sv 0))) (fun _ _ _ _ _ => (gw_name nd (by decide))) (fun _ _ _ _ _ => ts_nil) (fun _ _ _ _ _ => (sl_callTy cs_list W.z_list (by decide +kernel) (sa_cons (sv 1) sa_nil)))))
theorem g_need_like_columns (F : Fun K "need_like_columns" "need_like_columns" s_need_like_columns a_f d_f) (W : Wd P w K mg base)  : FnOk P w K mg base CX0 3 a_f d_f ["first", "second"] (spD K P w 2 f_need_like_columns) := by
  have nd := sc_need_like_columns.nd
  refine fn_ok (n := 2) (p := 2) (m := m_need_like_columns) (k := 2) F sc_need_like_columns rfl rfl rfl (fun cdv A outer s H E hr => ?_)
  exact (b_one (ss_if (st_cmp (os_neF hr.units) (s_propP (W.p_columns _ _ tabP_columns_Table) (hr.mono (by decide)) (sv 0)) (s_propP (W.p_columns _ _ tabP_columns_Table) (hr.mono (by decide)) (sv 1)) (nomark _)) (b_one ss_fail) b_nil))
theorem g_need_table (F : Fun K "need_table" "need_table" s_need_table a_f d_f) (W : Wd P w K mg base)  : FnOk P w K mg base CX0 1 a_f d_f ["table"] (spD K P w 1 f_need_table) := by
  have nd := sc_need_table.nd
  refine fn_ok (n := 1) (p := 1) (m := m_need_table) (k := 0) F sc_need_table rfl rfl rfl (fun cdv A outer s H E hr => ?_)
  exact (b_one (ss_if (st_not (st_val (s_isinstG ["Ratio", "Table"] W.kn W.ic_Table W.df_Table W.z_isinstance (sv 0)))) (b_one ss_fail) b_nil))
theorem g_need_row (F : Fun K "need_row" "need_row" s_need_row a_f d_f) (W : Wd P w K mg base) (p_are_numbers : Pm P w K mg base "are_numbers" 3 2 ["value", "many"] f_are_numbers) : FnOk P w K mg base CX0 4 a_f d_f ["columns", "row"] (spD K P w 2 f_need_row) := by
  have nd := sc_need_row.nd
  refine fn_ok (n := 2) (p := 2) (m := m_need_row) (k := 3) F sc_need_row rfl rfl rfl (fun cdv A outer s H E hr => ?_)
  exact (b_one (ss_if (st_not (st_val (s_callP p_are_numbers (hr.mono (by decide)) (sa_cons (sv 1) (sa_cons (sv 0) sa_nil))))) (b_one ss_fail) b_nil))
theorem g_need_position (F : Fun K "need_position" "need_position" s_need_position a_f d_f) (W : Wd P w K mg base) (p_is_count_to : Pm P w K mg base "is_count_to" 3 2 ["value", "most"] f_is_count_to) : FnOk P w K mg base CX0 4 a_f d_f ["position", "most"] (spD K P w 2 f_need_position) := by
  have nd := sc_need_position.nd
  refine fn_ok (n := 2) (p := 2) (m := m_need_position) (k := 3) F sc_need_position rfl rfl rfl (fun cdv A outer s H E hr => ?_)
  exact (b_one (ss_if (st_not (st_val (s_callP p_is_count_to (hr.mono (by decide)) (sa_cons (sv 0) (sa_cons (sv 1) sa_nil))))) (b_one ss_fail) b_nil))
theorem g_need_place_for_rows (F : Fun K "need_place_for_rows" "need_place_for_rows" s_need_place_for_rows a_f d_f) (W : Wd P w K mg base)  : FnOk P w K mg base CX0 1 a_f d_f ["many"] (spD K P w 1 f_need_place_for_rows) := by
  have nd := sc_need_place_for_rows.nd
  refine fn_ok (n := 1) (p := 1) (m := m_need_place_for_rows) (k := 0) F sc_need_place_for_rows rfl rfl rfl (fun cdv A outer s H E hr => ?_)
  exact (b_one (ss_if (st_cmp os_gt (sv 0) (s_globI W.c_MOST_ROWS) (nomark _)) (b_one ss_fail) b_nil))
theorem g_joined (F : Fun K "joined" "joined" s_joined a_f d_f) (W : Wd P w K mg base) (p_need_like_columns : Pm P w K mg base "need_like_columns" 3 2 ["first", "second"] f_need_like_columns) (p_need_place_for_rows : Pm P w K mg base "need_place_for_rows" 1 1 ["many"] f_need_place_for_rows) (p_need_table : Pm P w K mg base "need_table" 1 1 ["table"] f_need_table) : FnOk P w K mg base CX0 7 a_f d_f ["table", "other"] (spD K P w 2 f_joined) := by
  have nd := sc_joined.nd
  refine fn_ok (n := 2) (p := 2) (m := m_joined) (k := 6) F sc_joined rfl rfl rfl (fun cdv A outer s H E hr => ?_)
  exact (b_cons (ss_expr (s_callP p_need_table (hr.mono (by decide)) (sa_cons (sv 0) sa_nil))) (b_cons (ss_expr (s_callP p_need_table (hr.mono (by decide)) (sa_cons (sv 1) sa_nil))) (b_cons (ss_expr (s_callP p_need_like_columns (hr.mono (by decide)) (sa_cons (sv 0) (sa_cons (sv 1) sa_nil)))) (b_cons (ss_expr (s_callP p_need_place_for_rows (hr.mono (by decide)) (sa_cons (s_bin os_add (s_propP (W.p_height _ _ tabP_height_Table) (hr.mono (by decide)) (sv 0)) (s_propP (W.p_height _ _ tabP_height_Table) (hr.mono (by decide)) (sv 1))) sa_nil))) (b_one (ss_ret (s_makeP W.mkTable (hr.mono (by decide)) (sa_cons (s_propP (W.p_columns _ _ tabP_columns_Table) (hr.mono (by decide)) (sv 0)) (sa_cons (s_bin os_add (s_methP0 (W.m_rows _ _ tabM_rows_Table) (hr.mono (by decide)) (sv 0)) (s_methP0 (W.m_rows _ _ tabM_rows_Table) (hr.mono (by decide)) (sv 1))) sa_nil)))))))))
theorem g_turned (F : Fun K "turned" "turned" s_turned a_f d_f) (W : Wd P w K mg base) (p_need_table : Pm P w K mg base "need_table" 1 1 ["table"] f_need_table) : FnOk P w K mg base CX0 7 a_f d_f ["table"] (spD K P w 1 f_turned) := by
  have nd := sc_turned.nd
  refine fn_ok (n := 1) (p := 1) (m := m_turned) (k := 6) F sc_turned rfl rfl rfl (fun cdv A outer s H E hr => ?_)
  exact (b_cons (ss_expr (s_callP p_need_table (hr.mono (by decide)) (sa_cons (sv 0) sa_nil))) (b_one (ss_ret (s_makeP W.mkTable (hr.mono (by decide)) (sa_cons (s_propP (W.p_columns _ _ tabP_columns_Table) (hr.mono (by decide)) (sv 0)) (sa_cons (s_ofL (sl_rev (s_methP0 (W.m_rows _ _ tabM_rows_Table) (hr.mono (by decide)) (sv 0)))) sa_nil))))))
theorem g_piece (F : Fun K "piece" "piece" s_piece a_f d_f) (W : Wd P w K mg base) (p_is_count : Pm P w K mg base "is_count" 2 1 ["value"] f_is_count) (p_is_count_to : Pm P w K mg base "is_count_to" 3 2 ["value", "most"] f_is_count_to) (p_need_table : Pm P w K mg base "need_table" 1 1 ["table"] f_need_table) : FnOk P w K mg base CX0 7 a_f d_f ["table", "low", "high"] (spD K P w 3 f_piece) := by
  have nd := sc_piece.nd
  refine fn_ok (n := 3) (p := 3) (m := m_piece) (k := 6) F sc_piece rfl rfl rfl (fun cdv A outer s H E hr => ?_)
  exact (b_cons (ss_expr (s_callP p_need_table (hr.mono (by decide)) (sa_cons (sv 0) sa_nil))) (b_cons (ss_if (st_not (st_val (s_callP p_is_count_to (hr.mono (by decide)) (sa_cons (sv 1) (sa_cons (s_propP (W.p_height _ _ tabP_height_Table) (hr.mono (by decide)) (sv 0)) sa_nil))))) (b_one ss_fail) b_nil) (b_cons (ss_if (st_w (sw_or (st_not (st_val (s_callP p_is_count (hr.mono (by decide)) (sa_cons (sv 2) sa_nil)))) (sw_or (st_cmp os_lt (sv 2) (sv 1) (nomark _)) (sw_or1 (st_cmp os_gt (sv 2) (s_propP (W.p_height _ _ tabP_height_Table) (hr.mono (by decide)) (sv 0)) (nomark _)))))) (b_one ss_fail) b_nil) (b_one (ss_ret (s_makeP W.mkTable (hr.mono (by decide)) (sa_cons (s_propP (W.p_columns _ _ tabP_columns_Table) (hr.mono (by decide)) (sv 0)) (sa_cons (s_sl (s_methP0 (W.m_rows _ _ tabM_rows_Table) (hr.mono (by decide)) (sv 0)) (so_some (sv 1)) (so_some (sv 2))) sa_nil))))))))
theorem g_with_row (F : Fun K "with_row" "with_row" s_with_row a_f d_f) (W : Wd P w K mg base) (p_need_place_for_rows : Pm P w K mg base "need_place_for_rows" 1 1 ["many"] f_need_place_for_rows) (p_need_position : Pm P w K mg base "need_position" 4 2 ["position", "most"] f_need_position) (p_need_row : Pm P w K mg base "need_row" 4 2 ["columns", "row"] f_need_row) (p_need_table : Pm P w K mg base "need_table" 1 1 ["table"] f_need_table) : FnOk P w K mg base CX0 7 a_f d_f ["table", "position", "row"] (spD K P w 3 f_with_row) := by
  have nd := sc_with_row.nd
  refine fn_ok (n := 4) (p := 3) (m := m_with_row) (k := 6) F sc_with_row rfl rfl rfl (fun cdv A outer s H E hr => ?_)
  exact (b_cons (ss_expr (s_callP p_need_table (hr.mono (by decide)) (sa_cons (sv 0) sa_nil))) (b_cons (ss_expr (s_callP p_need_position (hr.mono (by decide)) (sa_cons (sv 1) (sa_cons (s_propP (W.p_height _ _ tabP_height_Table) (hr.mono (by decide)) (sv 0)) sa_nil)))) (b_cons (ss_expr (s_callP p_need_row (hr.mono (by decide)) (sa_cons (s_propP (W.p_columns _ _ tabP_columns_Table) (hr.mono (by decide)) (sv 0)) (sa_cons (sv 2) sa_nil)))) (b_cons (ss_expr (s_callP p_need_place_for_rows (hr.mono (by decide)) (sa_cons (s_bin os_add (s_propP (W.p_height _ _ tabP_height_Table) (hr.mono (by decide)) (sv 0)) s_int) sa_nil))) (b_cons (ss_own nd (sl_methR W.mr_Table_rows (hr.mono (by decide)) (sv 0))) (b_cons (ss_ins (sv 1) (sv 2)) (b_freeze 3 (b_one (ss_ret (s_makeP W.mkTable (hr.mono (by decide)) (sa_cons (s_propP (W.p_columns _ _ tabP_columns_Table) (hr.mono (by decide)) (sv 0)) (sa_cons (sv 3) sa_nil))))))))))))
theorem g_without_row (F : Fun K "without_row" "without_row" s_without_row a_f d_f) (W : Wd P w K mg base) (p_need_position : Pm P w K mg base "need_position" 4 2 ["position", "most"] f_need_position) (p_need_table : Pm P w K mg base "need_table" 1 1 ["table"] f_need_table) : FnOk P w K mg base CX0 7 a_f d_f ["table", "position"] (spD K P w 2 f_without_row) := by
  have nd := sc_without_row.nd
  refine fn_ok (n := 3) (p := 2) (m := m_without_row) (k := 6) F sc_without_row rfl rfl rfl (fun cdv A outer s H E hr => ?_)
  exact (b_cons (ss_expr (s_callP p_need_table (hr.mono (by decide)) (sa_cons (sv 0) sa_nil))) (b_cons (ss_expr (s_callP p_need_position (hr.mono (by decide)) (sa_cons (sv 1) (sa_cons (s_bin os_sub (s_propP (W.p_height _ _ tabP_height_Table) (hr.mono (by decide)) (sv 0)) s_int) sa_nil)))) (b_cons (ss_own nd (sl_methR W.mr_Table_rows (hr.mono (by decide)) (sv 0))) (b_cons (ss_del (sv 1)) (b_freeze 2 (b_one (ss_ret (s_makeP W.mkTable (hr.mono (by decide)) (sa_cons (s_propP (W.p_columns _ _ tabP_columns_Table) (hr.mono (by decide)) (sv 0)) (sa_cons (sv 2) sa_nil))))))))))
theorem g_exchanged (F : Fun K "exchanged" "exchanged" s_exchanged a_f d_f) (W : Wd P w K mg base) (p_need_position : Pm P w K mg base "need_position" 4 2 ["position", "most"] f_need_position) (p_need_table : Pm P w K mg base "need_table" 1 1 ["table"] f_need_table) : FnOk P w K mg base CX0 7 a_f d_f ["table", "position"] (spD K P w 2 f_exchanged) := by
  have nd := sc_exchanged.nd
  refine fn_ok (n := 3) (p := 2) (m := m_exchanged) (k := 6) F sc_exchanged rfl rfl rfl (fun cdv A outer s H E hr => ?_)
  exact (b_cons (ss_expr (s_callP p_need_table (hr.mono (by decide)) (sa_cons (sv 0) sa_nil))) (b_cons (ss_expr (s_callP p_need_position (hr.mono (by decide)) (sa_cons (sv 1) (sa_cons (s_bin os_sub (s_propP (W.p_height _ _ tabP_height_Table) (hr.mono (by decide)) (sv 0)) s_int) sa_nil)))) (b_cons (ss_own nd (sl_methR W.mr_Table_rows (hr.mono (by decide)) (sv 0))) (b_cons (ss_set2 rfl 2 (s_ixOwn 2 (s_bin os_add (sv 1) s_int) (fun _ _ => rfl)) (s_ixOwn 2 (sv 1) (fun _ _ => rfl)) (sv 1) (s_bin os_add (sv 1) s_int)) (b_freeze 2 (b_one (ss_ret (s_makeP W.mkTable (hr.mono (by decide)) (sa_cons (s_propP (W.p_columns _ _ tabP_columns_Table) (hr.mono (by decide)) (sv 0)) (sa_cons (sv 2) sa_nil))))))))))
theorem g__law_pick (F : Fun K "_law_pick" "_law_pick" s__law_pick a_f d_f) (W : Wd P w K mg base) (p__law_draw : Pm P w K mg base "_law_draw" 1 2 ["_law_pot_here", "_law_many"] f__law_draw) : FnOk P w K mg base CX0 2 a_f d_f ["_law_pot_here", "_law_some"] (spD K P w 2 f__law_pick) := by
  have nd := sc__law_pick.nd
  refine fn_ok (n := 2) (p := 2) (m := m__law_pick) (k := 1) F sc__law_pick rfl rfl rfl (fun cdv A outer s H E hr => ?_)
  exact (b_one (ss_ret (s_ix (sv 1) (s_callP p__law_draw (hr.mono (by decide)) (sa_cons (sv 0) (sa_cons (s_callB cs_len W.z_len (by decide +kernel) (sa_cons (sv 1) sa_nil)) sa_nil))) (fun _ _ => rfl))))
theorem g__law_low (F : Fun K "_law_low" "_law_low" s__law_low a_f d_f) (W : Wd P w K mg base)  : FnOk P w K mg base CX0 1 a_f d_f ["_law_top", "_law_bottom"] (spD K P w 2 f__law_low) := by
  have nd := sc__law_low.nd
  refine fn_ok (n := 4) (p := 2) (m := m__law_low) (k := 0) F sc__law_low rfl rfl rfl (fun cdv A outer s H E hr => ?_)
  exact (b_cons (ss_par rfl nd (s_callB cs_abs W.z_abs (by decide +kernel) (sa_cons (sv 0) sa_nil)) (s_callB cs_abs W.z_abs (by decide +kernel) (sa_cons (sv 1) sa_nil))) (b_cons (ss_while 100 PassesOwn.never (st_cmp (os_neF hr.units) (sv 3) s_int (nomark _)) (b_one (ss_par rfl nd (sv 3) (s_bin os_sub (sv 2) (s_bin os_mulT (s_bin os_fdiv (sv 2) (sv 3)) (sv 3)))))) (b_cons (ss_set nd (s_if (st_cmp os_gt (sv 1) s_int (nomark _)) (sv 2) (s_bin os_sub s_int (sv 2)))) (b_one (ss_ret (s_tup (sa_cons (s_bin os_fdiv (sv 0) (sv 2)) (sa_cons (s_bin os_fdiv (sv 1) (sv 2)) sa_nil))))))))
theorem g__law_pair (F : Fun K "_law_pair" "_law_pair" s__law_pair a_f d_f) (W : Wd P w K mg base)  : FnOk P w K mg base CX0 3 a_f d_f ["_law_ratio"] (spD K P w 1 f__law_pair) := by
  have nd := sc__law_pair.nd
  refine fn_ok (n := 1) (p := 1) (m := m__law_pair) (k := 2) F sc__law_pair rfl rfl rfl (fun cdv A outer s H E hr => ?_)
  exact (b_one (ss_ret (s_tup (sa_cons (s_propP W.p_top (hr.mono (by decide)) (sv 0)) (sa_cons (s_propP W.p_bottom (hr.mono (by decide)) (sv 0)) sa_nil)))))
theorem g__law_number (F : Fun K "_law_number" "_law_number" s__law_number a_f d_f) (W : Wd P w K mg base) (p__law_draw : Pm P w K mg base "_law_draw" 1 2 ["_law_pot_here", "_law_many"] f__law_draw) (p__law_low : Pm P w K mg base "_law_low" 1 2 ["_law_top", "_law_bottom"] f__law_low) (p__law_pick : Pm P w K mg base "_law_pick" 2 2 ["_law_pot_here", "_law_some"] f__law_pick) : FnOk P w K mg base CX0 4 a_f d_f ["_law_pot_here"] (spD K P w 1 f__law_number) := by
  have nd := sc__law_number.nd
  refine fn_ok (n := 4) (p := 1) (m := m__law_number) (k := 3) F sc__law_number rfl rfl rfl (fun cdv A outer s H E hr => ?_)
  exact (b_cons (ss_par rfl nd (s_bin os_sub (s_callP p__law_draw (hr.mono (by decide)) (sa_cons (sv 0) (sa_cons s_int sa_nil))) s_int) (s_callP p__law_pick (hr.mono (by decide)) (sa_cons (sv 0) (sa_cons (s_ofL (sl_lst (sa_cons s_int (sa_cons s_int (sa_cons s_int (sa_cons s_int (sa_cons s_int sa_nil))))))) sa_nil)))) (b_cons (ss_set nd (s_callP p__law_low (hr.mono (by decide)) (sa_cons (sv 2) (sa_cons (sv 3) sa_nil)))) (b_one (ss_ret (s_tup (sa_cons (s_if (st_w (sw_and (st_cmp (os_eqF hr.units) (s_ix (sv 1) s_int (fun _ _ => rfl)) s_int (nomark _)) (sw_and1 (st_cmp (os_eqF hr.units) (s_callP p__law_draw (hr.mono (by decide)) (sa_cons (sv 0) (sa_cons s_int sa_nil))) s_int (nomark _))))) (s_ix (sv 1) s_int (fun _ _ => rfl)) (s_makeP W.mk2 (hr.mono (by decide)) (sa_cons (sv 2) (sa_cons (sv 3) sa_nil)))) (sa_cons (sv 1) sa_nil)))))))
theorem g__law_rows (F : Fun K "_law_rows" "_law_rows" s__law_rows a_f d_f) (W : Wd P w K mg base) (p__law_draw : Pm P w K mg base "_law_draw" 1 2 ["_law_pot_here", "_law_many"] f__law_draw) (p__law_number : Pm P w K mg base "_law_number" 4 1 ["_law_pot_here"] f__law_number) : FnOk P w K mg base CX0 5 a_f d_f ["_law_pot_here", "_law_wide", "_law_height"] (spD K P w 3 f__law_rows) := by
  have nd := sc__law_rows.nd
  refine fn_ok (n := 11) (p := 3) (m := m__law_rows) (k := 4) F sc__law_rows rfl rfl rfl (fun cdv A outer s H E hr => ?_)
  exact (b_cons (ss_parLL rfl nd (sl_lst sa_nil) (sl_lst sa_nil)) (b_cons (ss_for PassesOwn.never rfl (si_range1 W.z_range (sa_cons (sv 2) sa_nil)) (g_name nd) (b_cons (ss_parLL rfl nd (sl_lst sa_nil) (sl_lst sa_nil)) (b_cons (ss_for PassesOwn.never rfl (si_range1 W.z_range (sa_cons (sv 1) sa_nil)) (g_name nd) (b_cons (ss_asg (s_callP p__law_number (hr.mono (by decide)) (sa_cons (sv 0) sa_nil)) (g_tup rfl (gs_cons (g_name nd) (gs_cons (g_name nd) gs_nil)))) (b_cons (ss_app (sv 9)) (b_one (ss_app (sv 10)))))) (b_freeze 7 (b_cons (ss_app (s_if (st_cmp (os_eqF hr.units) (s_callP p__law_draw (hr.mono (by decide)) (sa_cons (sv 0) (sa_cons s_int sa_nil))) s_int (nomark _)) (s_callTy cs_tuple W.z_tuple (by decide +kernel) (sa_cons (sv 7) sa_nil)) (sv 7))) (b_freeze 8 (b_one (ss_app (sv 8))))))))) (b_freeze 4 (b_freeze 5 (b_one (ss_ret (s_tup (sa_cons (sv 4) (sa_cons (sv 5) sa_nil)))))))))
theorem g__law_is (F : Fun K "_law_is" "_law_is" s__law_is a_f d_f) (W : Wd P w K mg base) (p__law_pair : Pm P w K mg base "_law_pair" 3 1 ["_law_ratio"] f__law_pair) : FnOk P w K mg base CX0 4 a_f d_f ["_law_table", "_law_wide", "_law_pairs"] (spD K P w 3 f__law_is) := by
  have nd := sc__law_is.nd
  refine fn_ok (n := 6) (p := 3) (m := m__law_is) (k := 3) F sc__law_is rfl rfl rfl (fun cdv A outer s H E hr => ?_)
  exact (b_cons (ss_ownLc (i := 3) [("_law_row", 4)] rfl rfl nd (blkOk_by (N := ["_law_table", "_law_wide", "_law_pairs", "_law_told", "_law_row", "_law_number_here"]) (sc := defScope s__law_is) (by decide +kernel)) (si_list (s_methP0 (W.m_rows _ _ tabM_rows_Table) (hr.mono (by decide)) (sv 0))) (fun _ _ _ _ _ => (gw_name nd (by decide))) (fun _ _ _ _ _ => ts_nil) (fun _ _ _ _ _ => (s_ofL (sl_comp [("_law_number_here", 5)] rfl rfl nd (blkOk_by (by with_unfolding_all rfl)) (si_list (sv 4)) (fun _ _ _ _ _ => (gw_name nd (by decide))) (fun _ _ _ _ _ => ts_nil) (fun _ _ _ _ _ => (s_callP p__law_pair (hr.mono (by decide)) (sa_cons (sv 5) sa_nil)))))) (sw_true rfl rfl rfl (by decide +kernel))) (b_freeze 3 (b_one (ss_ret (s_and (s_cmp (os_eqF hr.units) (s_propP (W.p_columns _ _ tabP_columns_Table) (hr.mono (by decide)) (sv 0)) (sv 1) (nomark _)) (s_and (s_cmp (os_eqF hr.units) (s_propP (W.p_height _ _ tabP_height_Table) (hr.mono (by decide)) (sv 0)) (s_callB cs_len W.z_len (by decide +kernel) (sa_cons (sv 2) sa_nil)) (nomark _)) (s_one (s_cmp (os_eqF hr.units) (sv 3) (sv 2) (nomark _)))))))))
theorem g__law_pieces_right (F : Fun K "_law_pieces_right" "_law_pieces_right" s__law_pieces_right a_f d_f) (W : Wd P w K mg base) (p__law_draw : Pm P w K mg base "_law_draw" 1 2 ["_law_pot_here", "_law_many"] f__law_draw) (p__law_is : Pm P w K mg base "_law_is" 4 3 ["_law_table", "_law_wide", "_law_pairs"] f__law_is) (p_joined : Pm P w K mg base "joined" 7 2 ["table", "other"] f_joined) (pk_joined : PmK P w K mg base "joined" 7 2 ["table", "other"] ["table", "other"] [0, 1] f_joined) (p_piece : Pm P w K mg base "piece" 7 3 ["table", "low", "high"] f_piece) (pk_piece : PmK P w K mg base "piece" 7 3 ["table", "low", "high"] ["high", "table", "low"] [1, 2, 0] f_piece) : FnOk P w K mg base CX0 29 a_f d_f ["_law_pot_here", "_law_table", "_law_wide", "_law_pairs"] (spD K P w 4 f__law_pieces_right) := by
  have nd := sc__law_pieces_right.nd
  refine fn_ok (n := 9) (p := 4) (m := m__law_pieces_right) (k := 28) F sc__law_pieces_right rfl rfl rfl (fun cdv A outer s H E hr => ?_)
  exact (b_cons (ss_set nd (s_callP p__law_draw (hr.mono (by decide)) (sa_cons (sv 0) (sa_cons (s_bin os_add (s_callB cs_len W.z_len (by decide +kernel) (sa_cons (sv 3) sa_nil)) s_int) sa_nil)))) (b_cons (ss_set nd (s_bin os_add (sv 4) (s_callP p__law_draw (hr.mono (by decide)) (sa_cons (sv 0) (sa_cons (s_bin os_sub (s_bin os_add (s_callB cs_len W.z_len (by decide +kernel) (sa_cons (sv 3) sa_nil)) s_int) (sv 4)) sa_nil))))) (b_cons (ss_par rfl nd (s_callP p_piece (hr.mono (by decide)) (sa_cons (sv 1) (sa_cons s_int (sa_cons (sv 4) sa_nil)))) (s_callPK pk_piece (hr.mono (by decide)) rfl rfl (sk_cons (s_callB cs_len W.z_len (by decide +kernel) (sa_cons (sv 3) sa_nil)) (sk_cons (sv 1) (sk_cons (sv 5) sk_nil))))) (b_cons (ss_set nd (s_callP p_piece (hr.mono (by decide)) (sa_cons (sv 1) (sa_cons (sv 4) (sa_cons (sv 5) sa_nil))))) (b_cons (ss_if (st_w (sw_or (st_not (st_val (s_callP p__law_is (hr.mono (by decide)) (sa_cons (sv 6) (sa_cons (sv 2) (sa_cons (s_sl (sv 3) (so_some (sv 4)) (so_some (sv 5))) sa_nil)))))) (sw_or (st_not (st_val (s_callP p__law_is (hr.mono (by decide)) (sa_cons (sv 7) (sa_cons (sv 2) (sa_cons (s_sl (sv 3) so_no (so_some (sv 4))) sa_nil)))))) (sw_or1 (st_not (st_val (s_callP p__law_is (hr.mono (by decide)) (sa_cons (sv 8) (sa_cons (sv 2) (sa_cons (s_sl (sv 3) (so_some (sv 5)) so_no) sa_nil)))))))))) (b_one (ss_ret s_bl)) b_nil) (b_one (ss_ret (s_and (s_cmp (os_or (os_eqD false (EqP.ok W.eq_eAll) (hr.mono (by decide))) (os_eqF hr.units)) (s_callP p_joined (hr.mono (by decide)) (sa_cons (s_callP p_joined (hr.mono (by decide)) (sa_cons (sv 7) (sa_cons (sv 6) sa_nil))) (sa_cons (sv 8) sa_nil))) (sv 1) (nomark _)) (s_one (s_cmp (os_or (os_eqD false (EqP.ok W.eq_eAll) (hr.mono (by decide))) (os_eqF hr.units)) (s_callPK pk_joined (hr.mono (by decide)) rfl rfl (sk_cons (sv 7) (sk_cons (s_callP p_joined (hr.mono (by decide)) (sa_cons (sv 6) (sa_cons (sv 8) sa_nil))) sk_nil))) (sv 1) (nomark _)))))))))))
theorem g__law_rows_right (F : Fun K "_law_rows_right" "_law_rows_right" s__law_rows_right a_f d_f) (W : Wd P w K mg base) (p__law_draw : Pm P w K mg base "_law_draw" 1 2 ["_law_pot_here", "_law_many"] f__law_draw) (p__law_is : Pm P w K mg base "_law_is" 4 3 ["_law_table", "_law_wide", "_law_pairs"] f__law_is) (p_exchanged : Pm P w K mg base "exchanged" 7 2 ["table", "position"] f_exchanged) (pk_exchanged : PmK P w K mg base "exchanged" 7 2 ["table", "position"] ["position", "table"] [1, 0] f_exchanged) (p_with_row : Pm P w K mg base "with_row" 7 3 ["table", "position", "row"] f_with_row) (pk_with_row : PmK P w K mg base "with_row" 7 3 ["table", "position", "row"] ["row", "position", "table"] [2, 1, 0] f_with_row) (p_without_row : Pm P w K mg base "without_row" 7 2 ["table", "position"] f_without_row) : FnOk P w K mg base CX0 29 a_f d_f ["_law_pot_here", "_law_table", "_law_wide", "_law_pairs", "_law_row", "_law_told"] (spD K P w 6 f__law_rows_right) := by
  have nd := sc__law_rows_right.nd
  refine fn_ok (n := 10) (p := 6) (m := m__law_rows_right) (k := 28) F sc__law_rows_right rfl rfl rfl (fun cdv A outer s H E hr => ?_)
  exact (b_cons (ss_set nd (s_callP p__law_draw (hr.mono (by decide)) (sa_cons (sv 0) (sa_cons (s_bin os_add (s_callB cs_len W.z_len (by decide +kernel) (sa_cons (sv 3) sa_nil)) s_int) sa_nil)))) (b_cons (ss_set nd (s_callP p_with_row (hr.mono (by decide)) (sa_cons (sv 1) (sa_cons (sv 6) (sa_cons (sv 4) sa_nil))))) (b_cons (ss_if (st_w (sw_or (st_not (st_val (s_callP p__law_is (hr.mono (by decide)) (sa_cons (sv 7) (sa_cons (sv 2) (sa_cons (s_bin os_add (s_bin os_add (s_sl (sv 3) so_no (so_some (sv 6))) (s_ofL (sl_lst (sa_cons (sv 5) sa_nil)))) (s_sl (sv 3) (so_some (sv 6)) so_no)) sa_nil)))))) (sw_or (st_not (st_cmp (os_or (os_eqD false (EqP.ok W.eq_eAll) (hr.mono (by decide))) (os_eqF hr.units)) (s_callP p_without_row (hr.mono (by decide)) (sa_cons (sv 7) (sa_cons (sv 6) sa_nil))) (sv 1) (nomark _))) (sw_or1 (st_not (st_cmp (os_or (os_eqD false (EqP.ok W.eq_eAll) (hr.mono (by decide))) (os_eqF hr.units)) (s_callPK pk_with_row (hr.mono (by decide)) rfl rfl (sk_cons (s_ofL (sl_callTy cs_list W.z_list (by decide +kernel) (sa_cons (sv 4) sa_nil))) (sk_cons (sv 6) (sk_cons (sv 1) sk_nil)))) (sv 7) (nomark _))))))) (b_one (ss_ret s_bl)) b_nil) (b_cons (ss_for PassesOwn.never rfl (si_range1 W.z_range (sa_cons (s_callB cs_len W.z_len (by decide +kernel) (sa_cons (sv 3) sa_nil)) sa_nil)) (g_name nd) (b_cons (ss_if (st_not (st_val (s_callP p__law_is (hr.mono (by decide)) (sa_cons (s_callP p_without_row (hr.mono (by decide)) (sa_cons (sv 1) (sa_cons (sv 8) sa_nil))) (sa_cons (sv 2) (sa_cons (s_bin os_add (s_sl (sv 3) so_no (so_some (sv 8))) (s_sl (sv 3) (so_some (s_bin os_add (sv 8) s_int)) so_no)) sa_nil)))))) (b_one (ss_ret s_bl)) b_nil) (b_one (ss_if (st_cmp os_lt (s_bin os_add (sv 8) s_int) (s_callB cs_len W.z_len (by decide +kernel) (sa_cons (sv 3) sa_nil)) (nomark _)) (b_cons (ss_set nd (s_callP p_exchanged (hr.mono (by decide)) (sa_cons (sv 1) (sa_cons (sv 8) sa_nil)))) (b_one (ss_if (st_w (sw_or (st_not (st_val (s_callP p__law_is (hr.mono (by decide)) (sa_cons (sv 9) (sa_cons (sv 2) (sa_cons (s_bin os_add (s_bin os_add (s_sl (sv 3) so_no (so_some (sv 8))) (s_ofL (sl_lst (sa_cons (s_ix (sv 3) (s_bin os_add (sv 8) s_int) (fun _ _ => rfl)) (sa_cons (s_ix (sv 3) (sv 8) (fun _ _ => rfl)) sa_nil))))) (s_sl (sv 3) (so_some (s_bin os_add (sv 8) s_int)) so_no)) sa_nil)))))) (sw_or1 (st_not (st_cmp (os_or (os_eqD false (EqP.ok W.eq_eAll) (hr.mono (by decide))) (os_eqF hr.units)) (s_callPK pk_exchanged (hr.mono (by decide)) rfl rfl (sk_cons (sv 8) (sk_cons (sv 9) sk_nil))) (sv 1) (nomark _)))))) (b_one (ss_ret s_bl)) b_nil))) b_nil)))) (b_one (ss_ret s_bl))))))
theorem g__law_is_number (F : Fun K "_law_is_number" "_law_is_number" s__law_is_number a_f d_f) (W : Wd P w K mg base)  : FnOk P w K mg base CX0 1 a_f d_f ["_law_value"] (spD K P w 1 f__law_is_number) := by
  have nd := sc__law_is_number.nd
  refine fn_ok (n := 1) (p := 1) (m := m__law_is_number) (k := 0) F sc__law_is_number rfl rfl rfl (fun cdv A outer s H E hr => ?_)
  exact (b_one (ss_ret (s_or (s_isinstG ["Ratio", "Table"] W.kn W.ic_Ratio W.df_Ratio W.z_isinstance (sv 0)) (s_one (s_and (s_isinstY ["Ratio", "Table"] (k := .int) W.kn W.z_isinstance W.z_int (by decide +kernel) (sv 0)) (s_one (s_not (s_isinstY ["Ratio", "Table"] (k := .bool) W.kn W.z_isinstance W.z_bool (by decide +kernel) (sv 0)))))))))
theorem g__law_are_rows (F : Fun K "_law_are_rows" "_law_are_rows" s__law_are_rows a_f d_f) (W : Wd P w K mg base) (p__law_is_number : Pm P w K mg base "_law_is_number" 1 1 ["_law_value"] f__law_is_number) : FnOk P w K mg base CX0 2 a_f d_f ["_law_wide", "_law_value"] (spD K P w 2 f__law_are_rows) := by
  have nd := sc__law_are_rows.nd
  refine fn_ok (n := 4) (p := 2) (m := m__law_are_rows) (k := 1) F sc__law_are_rows rfl rfl rfl (fun cdv A outer s H E hr => ?_)
  exact (b_cons (ss_if (st_w (sw_or (st_not (st_val (s_isinst2 ["Ratio", "Table"] (k1 := .list) (k2 := .tuple) W.kn W.z_isinstance W.z_list W.z_tuple (by decide +kernel) (by decide +kernel) (sv 1)))) (sw_or1 (st_cmp os_gt (s_callB cs_len W.z_len (by decide +kernel) (sa_cons (sv 1) sa_nil)) s_int (nomark _))))) (b_one (ss_ret s_bl)) b_nil) (b_cons (ss_for PassesOwn.never rfl (si_sq 1) (g_name nd) (b_one (ss_if (st_w (sw_or (st_not (st_val (s_isinst2 ["Ratio", "Table"] (k1 := .list) (k2 := .tuple) W.kn W.z_isinstance W.z_list W.z_tuple (by decide +kernel) (by decide +kernel) (sv 2)))) (sw_or (st_cmp (os_neF hr.units) (s_callB cs_len W.z_len (by decide +kernel) (sa_cons (sv 2) sa_nil)) (sv 0) (nomark _)) (sw_or1 (st_not (st_val (s_callB (cs_all rfl) W.z_all (by decide +kernel) (sa_cons (s_ofL (sl_comp [("_law_number_here", 3)] rfl rfl nd (blkOk_by (N := ["_law_wide", "_law_value", "_law_row", "_law_number_here"]) (sc := defScope s__law_are_rows) (by decide +kernel)) (si_sq 2) (fun _ _ _ _ _ => (gw_name nd (by decide))) (fun _ _ _ _ _ => ts_nil) (fun _ _ _ _ _ => (s_callP p__law_is_number (hr.mono (by decide)) (sa_cons (sv 3) sa_nil))))) sa_nil)))))))) (b_one (ss_ret s_bl)) b_nil))) (b_one (ss_ret s_bl))))
theorem g__law_heard (F : Fun K "_law_heard" "_law_heard" s__law_heard a_f d_f) (W : Wd P w K mg base)   : FnG P w K mg base CX0 10 a_f d_f ["_law_wide", "_law_value"] (spD K P w 2 f__law_heard) := by
  have nd := sc__law_heard.nd
  refine fnG_ok (n := 4) (p := 2) (m := m__law_heard) (k := 9) F sc__law_heard rfl rfl rfl (fun cdv A outer s H E hr hgd => ?_)
  exact (b_cons (ss_own nd (sl_lst (sa_cons s_str sa_nil))) (b_cons (ss_try rfl rfl nd (str_expr fun W0 pn xe tk => (sx_makePK tk W.mxkTable0 (hr.mono (by decide)) rfl rfl (sk_cons (sv 1) (sk_cons (sv 0) sk_nil)))) (sh_named W.ei_InvalidRows W.xt (by decide) (scs_set nd (sc_lst (sca_cons (sc_of fun _ _ _ => s_str) (sca_cons (sc_repr W.txa hgd (hr.mono (by decide)) W.z_repr (sc_fldP W.ei_InvalidRows (by decide))) sca_nil)))) .nil)) (b_freeze 2 (b_one (ss_ret (sv 2))))))
theorem g__law_any_right (F : Fun K "_law_any_right" "_law_any_right" s__law_any_right a_f d_f) (W : Wd P w K mg base) (p__law_are_rows : Pm P w K mg base "_law_are_rows" 2 2 ["_law_wide", "_law_value"] f__law_are_rows) (p__law_draw : Pm P w K mg base "_law_draw" 1 2 ["_law_pot_here", "_law_many"] f__law_draw) (p__law_heard : PmG P w K mg base "_law_heard" 10 2 ["_law_wide", "_law_value"] f__law_heard) (p__law_pick : Pm P w K mg base "_law_pick" 2 2 ["_law_pot_here", "_law_some"] f__law_pick) : FnG P w K mg base CX0 29 a_f d_f ["_law_pot_here", "_law_wide", "_law_rows_here"] (spD K P w 3 f__law_any_right) := by
  have nd := sc__law_any_right.nd
  refine fnG_ok (n := 8) (p := 3) (m := m__law_any_right) (k := 28) F sc__law_any_right rfl rfl rfl (fun cdv A outer s H E hr hgd => ?_)
  exact (b_cons (ss_set nd (s_callP p__law_pick (hr.mono (by decide)) (sa_cons (sv 0) (sa_cons (s_ofL (sl_lst (sa_cons s_non (sa_cons s_bl (sa_cons s_bl (sa_cons s_str (sa_cons (s_ofL (sl_lst (sa_cons s_int sa_nil))) (sa_cons (s_tup sa_nil) (sa_cons s_dik0 sa_nil))))))))) sa_nil)))) (b_cons (ss_own nd (sl_lst (sa_cons (sv 2) (sa_cons (s_callTy cs_tuple W.z_tuple (by decide +kernel) (sa_cons (sv 2) sa_nil)) (sa_cons (s_bin os_add (sv 2) (s_ofL (sl_lst (sa_cons (s_ofL (sl_rep (s_ofL (sl_lst (sa_cons s_int sa_nil))) (s_bin os_add (sv 1) s_int))) sa_nil)))) (sa_cons (s_bin os_add (sv 2) (s_ofL (sl_lst (sa_cons (sv 3) sa_nil)))) (sa_cons (s_bin os_add (sv 2) (s_ofL (sl_lst (sa_cons (s_ofL (sl_rep (s_ofL (sl_lst (sa_cons (sv 3) sa_nil))) (sv 1))) sa_nil)))) (sa_cons (s_ofL (sl_rep (s_ofL (sl_lst (sa_cons (s_ofL (sl_rep (s_ofL (sl_lst (sa_cons s_int sa_nil))) (sv 1))) sa_nil))) s_int)) (sa_cons (s_ofL (sl_rep (s_ofL (sl_lst (sa_cons (s_ofL (sl_rep (s_ofL (sl_lst (sa_cons s_int sa_nil))) (sv 1))) sa_nil))) s_int)) (sa_cons (s_ofL (sl_lst sa_nil)) (sa_cons (s_tup sa_nil) (sa_cons (s_ofL (sl_lst (sa_cons (s_ofL (sl_lst sa_nil)) sa_nil))) (sa_cons (s_ofL (sl_lst (sa_cons (s_ofL (sl_lst sa_nil)) (sa_cons (s_ofL (sl_lst sa_nil)) sa_nil)))) sa_nil))))))))))))) (b_cons (ss_if (st_w (sw_and (st_cmp (os_or (os_eqD true (EqP.ok W.eq_eAll) (hr.mono (by decide))) (os_neF hr.units)) (sv 2) (s_ofL (sl_lst sa_nil)) (nomark _)) (sw_and1 (st_cmp os_gt (sv 1) s_int (nomark _))))) (b_cons (ss_set nd (s_callP p__law_draw (hr.mono (by decide)) (sa_cons (sv 0) (sa_cons (s_callB cs_len W.z_len (by decide +kernel) (sa_cons (sv 2) sa_nil)) sa_nil)))) (b_cons (ss_app (s_bin os_add (s_bin os_add (s_sl (sv 2) so_no (so_some (sv 6))) (s_ofL (sl_lst (sa_cons (s_sl (s_ofL (sl_callTy cs_list W.z_list (by decide +kernel) (sa_cons (s_ix (sv 2) (sv 6) (fun _ _ => rfl)) sa_nil))) so_no (so_some (s_neg s_int))) sa_nil)))) (s_sl (sv 2) (so_some (s_bin os_add (sv 6) s_int)) so_no))) (b_one (ss_app (s_bin os_add (s_bin os_add (s_sl (sv 2) so_no (so_some (sv 6))) (s_ofL (sl_lst (sa_cons (s_bin os_add (s_sl (s_ofL (sl_callTy cs_list W.z_list (by decide +kernel) (sa_cons (s_ix (sv 2) (sv 6) (fun _ _ => rfl)) sa_nil))) so_no (so_some (s_neg s_int))) (s_ofL (sl_lst (sa_cons (sv 3) sa_nil)))) sa_nil)))) (s_sl (sv 2) (so_some (s_bin os_add (sv 6) s_int)) so_no)))))) b_nil) (b_freeze 4 (b_cons (ss_for PassesOwn.never rfl (si_list (s_bin os_add (sv 4) (s_ofL (sl_lst (sa_cons s_non (sa_cons s_int (sa_cons s_bl (sa_cons s_str (sa_cons s_str (sa_cons s_dik0 (sa_cons (dik_disp (kvs := [(0, 1)]) (pps_cons pe_int pe_int pps_nil) rfl rfl (by simp) (by decide) (by decide) rfl fun σ H Q q => q) (sa_cons (s_ofL (sl_lst (sa_cons s_int sa_nil))) (sa_cons (s_ofL (sl_lst (sa_cons s_non sa_nil))) (sa_cons (s_ofL (sl_lst (sa_cons (s_makeP W.mk1 (hr.mono (by decide)) (sa_cons s_int sa_nil)) sa_nil))) (sa_cons (s_makeP W.mk1 (hr.mono (by decide)) (sa_cons s_int sa_nil)) sa_nil))))))))))))))) (g_name nd) (b_cons (ss_set nd (s_callB (cs_reprR (TxP.ok W.tx) hgd (hr.mono (by decide))) W.z_repr (by decide +kernel) (sa_cons (sv 5) sa_nil))) (b_one (ss_if (st_w (sw_or (st_cmp (os_or (os_eqD true (EqP.ok W.eq_eAll) (hr.mono (by decide))) (os_neF hr.units)) (s_callPG p__law_heard (hr.mono (by decide)) hgd (sa_cons (sv 1) (sa_cons (sv 5) sa_nil))) (s_if (st_val (s_callP p__law_are_rows (hr.mono (by decide)) (sa_cons (sv 1) (sa_cons (sv 5) sa_nil)))) (s_ofL (sl_lst (sa_cons s_str sa_nil))) (s_ofL (sl_lst (sa_cons s_str (sa_cons (sv 7) sa_nil))))) (nomark _)) (sw_or1 (st_cmp (os_or (os_eqD true (EqP.ok W.eq_eAll) (hr.mono (by decide))) (os_neF hr.units)) (s_callB (cs_reprR (TxP.ok W.tx) hgd (hr.mono (by decide))) W.z_repr (by decide +kernel) (sa_cons (sv 5) sa_nil)) (sv 7) (nomark _))))) (b_one (ss_ret s_bl)) b_nil)))) (b_one (ss_ret s_bl)))))))
theorem rest_law (W : Wd P w K mg base) (p__law_any_right : PmG P w K mg base "_law_any_right" 29 3 ["_law_pot_here", "_law_wide", "_law_rows_here"] f__law_any_right) (p__law_draw : Pm P w K mg base "_law_draw" 1 2 ["_law_pot_here", "_law_many"] f__law_draw) (p__law_is : Pm P w K mg base "_law_is" 4 3 ["_law_table", "_law_wide", "_law_pairs"] f__law_is) (p__law_pieces_right : Pm P w K mg base "_law_pieces_right" 29 4 ["_law_pot_here", "_law_table", "_law_wide", "_law_pairs"] f__law_pieces_right) (p__law_rows : Pm P w K mg base "_law_rows" 5 3 ["_law_pot_here", "_law_wide", "_law_height"] f__law_rows) (p__law_rows_right : Pm P w K mg base "_law_rows_right" 29 6 ["_law_pot_here", "_law_table", "_law_wide", "_law_pairs", "_law_row", "_law_told"] f__law_rows_right) (p_joined : Pm P w K mg base "joined" 7 2 ["table", "other"] f_joined) (p_turned : Pm P w K mg base "turned" 7 1 ["table"] f_turned) {cdv : Value} {A : Around} {outer : List Env} {s : Shared} {H : Hp} {E : XK} (hr : Room 29 (A.deeper (PyProof.Rows.envOfC "law" (defScope s_law) s.heap.objs.size a_f cdv))) (hgd : A.guards = some []) : SndB (cxOf CX0 P w K mg base ["_law_script", "_law_pot_here", "_law_wide", "_law_other", "_law_given", "_law_kept", "_law_row", "_law_rows_here", "_law_pairs", "_law_more", "_law_others", "_law_shown", "_law_table", "_law_one", "_law_told"] "law" (defScope s_law) a_f cdv A outer s H E).nox ((defBody s_law).tail) m_law := by
  have nd := sc_law.nd
  exact (b_cons (ss_set nd (s_callP p__law_draw (hr.mono (by decide)) (sa_cons (sv 1) (sa_cons s_int sa_nil)))) (b_cons (ss_asg (s_callP p__law_rows (hr.mono (by decide)) (sa_cons (sv 1) (sa_cons (sv 2) (sa_cons (s_callP p__law_draw (hr.mono (by decide)) (sa_cons (sv 1) (sa_cons s_int sa_nil))) sa_nil)))) (g_tup rfl (gs_cons (g_name nd) (gs_cons (g_name nd) gs_nil)))) (b_cons (ss_asg (s_callP p__law_rows (hr.mono (by decide)) (sa_cons (sv 1) (sa_cons (sv 2) (sa_cons (s_callP p__law_draw (hr.mono (by decide)) (sa_cons (sv 1) (sa_cons s_int sa_nil))) sa_nil)))) (g_tup rfl (gs_cons (g_name nd) (gs_cons (g_name nd) gs_nil)))) (b_cons (ss_par rfl nd (s_callB (cs_reprR (TxP.ok W.tx) hgd (hr.mono (by decide))) W.z_repr (by decide +kernel) (sa_cons (sv 7) sa_nil)) (s_makeP W.mkTable (hr.mono (by decide)) (sa_cons (sv 2) (sa_cons (s_if (st_cmp (os_or (os_eqD false (EqP.ok W.eq_eAll) (hr.mono (by decide))) (os_eqF hr.units)) (s_callP p__law_draw (hr.mono (by decide)) (sa_cons (sv 1) (sa_cons s_int sa_nil))) s_int (nomark _)) (sv 7) (s_callTy cs_tuple W.z_tuple (by decide +kernel) (sa_cons (sv 7) sa_nil))) sa_nil)))) (b_cons (ss_set nd (s_makePK W.mkkTable (hr.mono (by decide)) rfl rfl (sk_cons (sv 9) (sk_cons (sv 2) sk_nil)))) (b_lendP 4 5 6 W.mkF_Table (hr.mono (by decide)) PassesOwn.never rfl nd (sls_lc (i := 4) [("_law_row", 6)] rfl rfl nd (blkOk_by (N := ["_law_script", "_law_pot_here", "_law_wide", "_law_other", "_law_given", "_law_kept", "_law_row", "_law_rows_here", "_law_pairs", "_law_more", "_law_others", "_law_shown", "_law_table", "_law_one", "_law_told"]) (sc := defScope s_law) (by decide +kernel)) (si_list (sv 7)) (fun _ _ _ _ _ => (gw_name nd (by decide))) (fun _ _ _ _ _ => ts_nil) (fun _ _ _ _ _ => (sl_callTy cs_list W.z_list (by decide +kernel) (sa_cons (sv 6) sa_nil))) (sw_true rfl rfl rfl (by decide +kernel))) (sv 2) s_int s_non  (b_cons (ss_if (st_not (st_val (s_callP p__law_is (hr.mono (by decide)) (sa_cons (sv 5) (sa_cons (sv 2) (sa_cons (sv 8) sa_nil)))))) (b_one (ss_ret s_bl)) b_nil) (b_cons (ss_if (st_w (sw_or (st_not (st_val (s_callP p__law_is (hr.mono (by decide)) (sa_cons (sv 12) (sa_cons (sv 2) (sa_cons (sv 8) sa_nil)))))) (sw_or (st_cmp (os_or (os_eqD true (EqP.ok W.eq_eAll) (hr.mono (by decide))) (os_neF hr.units)) (s_callB (cs_reprR (TxP.ok W.tx) hgd (hr.mono (by decide))) W.z_repr (by decide +kernel) (sa_cons (sv 7) sa_nil)) (sv 11) (nomark _)) (sw_or (st_not (st_val (s_callP p__law_is (hr.mono (by decide)) (sa_cons (s_callP p_joined (hr.mono (by decide)) (sa_cons (sv 12) (sa_cons (sv 3) sa_nil))) (sa_cons (sv 2) (sa_cons (s_bin os_add (sv 8) (sv 10)) sa_nil)))))) (sw_or1 (st_not (st_val (s_callP p__law_is (hr.mono (by decide)) (sa_cons (s_callP p_turned (hr.mono (by decide)) (sa_cons (sv 12) sa_nil)) (sa_cons (sv 2) (sa_cons (s_ofL (sl_rev (sv 8))) sa_nil))))))))))) (b_one (ss_ret s_bl)) b_nil) (b_cons (ss_if (st_w (sw_or (st_not (st_cmp (os_or (os_eqD false (EqP.ok W.eq_eAll) (hr.mono (by decide))) (os_eqF hr.units)) (s_callP p_turned (hr.mono (by decide)) (sa_cons (s_callP p_turned (hr.mono (by decide)) (sa_cons (sv 12) sa_nil)) sa_nil)) (sv 12) (nomark _))) (sw_or1 (st_not (st_cmp (os_or (os_eqD false (EqP.ok W.eq_eAll) (hr.mono (by decide))) (os_eqF hr.units)) (s_callP p_turned (hr.mono (by decide)) (sa_cons (s_callP p_joined (hr.mono (by decide)) (sa_cons (sv 12) (sa_cons (sv 3) sa_nil))) sa_nil)) (s_callP p_joined (hr.mono (by decide)) (sa_cons (s_callP p_turned (hr.mono (by decide)) (sa_cons (sv 3) sa_nil)) (sa_cons (s_callP p_turned (hr.mono (by decide)) (sa_cons (sv 12) sa_nil)) sa_nil))) (nomark _)))))) (b_one (ss_ret s_bl)) b_nil) (b_cons (ss_spoil 6 PassesOwn.never rfl nd (sll_meth W.mrr_Table_rows (hr.mono (by decide)) (sv 12)) s_int) (b_cons (ss_spoilE (sll_meth W.mrr_Table_rows (hr.mono (by decide)) (sv 12)) (s_ofL (sl_lst sa_nil))) (b_cons (ss_if (st_w (sw_or (st_not (st_val (s_callP p__law_is (hr.mono (by decide)) (sa_cons (sv 12) (sa_cons (sv 2) (sa_cons (sv 8) sa_nil)))))) (sw_or1 (st_not (st_cmp (os_or (os_eqD false (EqP.ok W.eq_eAll) (hr.mono (by decide))) (os_eqF hr.units)) (sv 12) (s_makeP W.mkTable (hr.mono (by decide)) (sa_cons (sv 2) (sa_cons (s_ofL (sl_comp [("_law_row", 6)] rfl rfl nd (blkOk_by (N := ["_law_script", "_law_pot_here", "_law_wide", "_law_other", "_law_given", "_law_kept", "_law_row", "_law_rows_here", "_law_pairs", "_law_more", "_law_others", "_law_shown", "_law_table", "_law_one", "_law_told"]) (sc := defScope s_law) (by decide +kernel)) (si_list (sv 8)) (fun _ _ _ _ _ => (gw_name nd (by decide))) (fun _ _ _ _ _ => ts_nil) (fun _ _ _ _ _ => (s_ofL (sl_comp [("_law_one", 13)] rfl rfl nd (blkOk_by (by with_unfolding_all rfl)) (si_list (sv 6)) (fun _ _ _ _ _ => (gw_name nd (by decide))) (fun _ _ _ _ _ => ts_nil) (fun _ _ _ _ _ => (s_makeP W.mk2 (hr.mono (by decide)) (sa_cons (s_ix (sv 13) s_int (fun _ _ => rfl)) (sa_cons (s_ix (sv 13) s_int (fun _ _ => rfl)) sa_nil))))))))) sa_nil))) (nomark _)))))) (b_one (ss_ret s_bl)) b_nil) (b_cons (ss_if (st_cmp (os_or (os_eqD true (EqP.ok W.eq_eAll) (hr.mono (by decide))) (os_neF hr.units)) (s_callB (cs_reprR (TxP.ok W.tx) hgd (hr.mono (by decide))) W.z_repr (by decide +kernel) (sa_cons (s_ofL (sl_lst (sa_cons (s_cmp (os_cmpP (os_eqF hr.units) (by decide) W.eq_Table (hr.mono (by decide))) (sv 12) (sv 3) (nomark _)) (sa_cons (s_cmp (os_cmpLst (by decide) W.eq_Table (hr.mono (by decide)) W.nl_Table) (sv 12) (sv 7) (nomark _)) (sa_cons (s_cmp (os_cmpP (os_eqF hr.units) (by decide) W.eq_Table (hr.mono (by decide))) (sv 12) (s_makeP W.mkTable (hr.mono (by decide)) (sa_cons (s_bin os_mod (s_bin os_add (sv 2) s_int) s_int) (sa_cons (s_ofL (sl_lst sa_nil)) sa_nil))) (nomark _)) sa_nil))))) sa_nil)) (s_callB (cs_reprR (TxP.ok W.tx) hgd (hr.mono (by decide))) W.z_repr (by decide +kernel) (sa_cons (s_ofL (sl_lst (sa_cons (s_cmp (os_or (os_eqD false (EqP.ok W.eq_eAll) (hr.mono (by decide))) (os_eqF hr.units)) (sv 8) (sv 10) (nomark _)) (sa_cons s_bl (sa_cons s_bl sa_nil))))) sa_nil)) (nomark _)) (b_one (ss_ret s_bl)) b_nil) (b_cons (ss_asg (s_callP p__law_rows (hr.mono (by decide)) (sa_cons (sv 1) (sa_cons (sv 2) (sa_cons s_int sa_nil)))) (g_tup rfl (gs_cons (g_name nd) (gs_cons (g_name nd) gs_nil)))) (b_cons (ss_if (st_w (sw_or (st_not (st_val (s_callP p__law_pieces_right (hr.mono (by decide)) (sa_cons (sv 1) (sa_cons (sv 12) (sa_cons (sv 2) (sa_cons (sv 8) sa_nil))))))) (sw_or1 (st_not (st_val (s_callP p__law_rows_right (hr.mono (by decide)) (sa_cons (sv 1) (sa_cons (sv 12) (sa_cons (sv 2) (sa_cons (sv 8) (sa_cons (s_ix (sv 13) s_int (fun _ _ => rfl)) (sa_cons (s_ix (sv 14) s_int (fun _ _ => rfl)) sa_nil)))))))))))) (b_one (ss_ret s_bl)) b_nil) (b_one (ss_ret (s_callPG p__law_any_right (hr.mono (by decide)) hgd (sa_cons (sv 1) (sa_cons (sv 2) (sa_cons (sv 7) sa_nil)))))))))))))))))))))
end
end Pd
namespace Pd
open PySem L2 PySem.Spec PyProof.Rows
theorem all_eq {α : Type} {P : α → Prop} {t : T α} {a : α} (e : t = .ret a) (h : P a) : t.all P := by subst e; exact h
theorem all_dr {α : Type} {P : α → Prop} {t : T α} {n : Nat} {k : Nat → T α} (e : t = .draw n k) (h : ∀ i, i < n → (k i).all P) : t.all P := by subst e; exact h
theorem call1_all {ρ : Rho} {a : Rho → T D} {f : List D → T D} {P : D → Prop} (h : (a ρ).all fun x => (f [x]).all P) : (eCall 1 f (aCons a aNil) ρ).all P :=
  T.all_bind.mpr (T.all_bind.mpr (T.all_mono (fun x hx => hx) h))
theorem call2_all {ρ : Rho} {a b : Rho → T D} {f : List D → T D} {P : D → Prop} (h : (a ρ).all fun x => (b ρ).all fun y => (f [x, y]).all P) : (eCall 2 f (aCons a (aCons b aNil)) ρ).all P :=
  T.all_bind.mpr (T.all_bind.mpr (T.all_mono (fun x hx => T.all_bind.mpr (T.all_bind.mpr (T.all_mono (fun y hy => hy) hx))) h))
theorem call3_all {ρ : Rho} {a b c : Rho → T D} {f : List D → T D} {P : D → Prop} (h : (a ρ).all fun x => (b ρ).all fun y => (c ρ).all fun z => (f [x, y, z]).all P) : (eCall 3 f (aCons a (aCons b (aCons c aNil))) ρ).all P :=
  T.all_bind.mpr (T.all_bind.mpr (T.all_mono (fun x hx => T.all_bind.mpr (T.all_bind.mpr (T.all_mono (fun y hy => T.all_bind.mpr (T.all_bind.mpr (T.all_mono (fun z hz => hz) hy))) hx))) h))
theorem bin_all {ρ : Rho} {a b : Rho → T D} {f : D → D → T D} {P : D → Prop} (h : (a ρ).all fun x => (b ρ).all fun y => (f x y).all P) : (eBin f a b ρ).all P :=
  T.all_bind.mpr (T.all_mono (fun _ hx => T.all_bind.mpr hx) h)
theorem var_val {ρ : Rho} {i : Nat} {d : D} (h : ρ[i]? = some (.val d)) : eVar i ρ = .ret d := by simp only [eVar, h]
theorem rng_val {ρ : Rho} {m : Rho → T D} {k : Nat} (hm : m ρ = .ret (.int (k : Int))) (hk : k ≤ 100000) : iRg rng1 (aCons m aNil) ρ = .ret (upto 0 k) := by
  have e1 : decide ((k : Int) ≤ 100000) = true := decide_eq_true (by omega)
  have e2 : decide (-100000 ≤ (k : Int)) = true := decide_eq_true (by omega)
  simp only [iRg, aCons, aNil, hm, T.bind, rng1, e1, e2, Bool.and_self, cond, Int.toNat_natCast]
theorem forT_cons {body : D → Rho → T Out} {d : D} {ds : List D} {ρ : Rho} {Q : Out → Prop} (h : (body d ρ).all fun o => ∃ ρ', o = .nx ρ' ∧ (forT body ds ρ').all Q) : (forT body (d :: ds) ρ).all Q :=
  T.all_bind.mpr (T.all_mono (fun o ho => by obtain ⟨ρ', rfl, q⟩ := ho; exact q) h)
theorem neI' (i j : Int) : opNeF (.int i) (.int j) = .ret (.bl (!decide (i = j))) := rfl
theorem eqI' (i j : Int) : opEqF (.int i) (.int j) = .ret (.bl (decide (i = j))) := rfl
theorem small_of {ds : List D} (h : ds.length ≤ 100000) : small ds = true := decide_eq_true h
inductive NumL : List D → List Rat → Prop
  | nil : NumL [] []
  | cons {d : D} {r : Rat} {ds : List D} {rs : List Rat} : Num d r → NumL ds rs → NumL (d :: ds) (r :: rs)
theorem NumL.len {ds : List D} {rs : List Rat} (h : NumL ds rs) : ds.length = rs.length := by
  induction h with
  | nil => rfl
  | cons _ _ ih => rw [List.length_cons, List.length_cons, ih]
theorem NumL.mem {ds : List D} {rs : List Rat} (h : NumL ds rs) : ∀ d ∈ ds, ∃ r ∈ rs, Num d r := by
  induction h with
  | nil => intro d hd; cases hd
  | cons a _ ih =>
    intro d hd
    rcases List.mem_cons.mp hd with z | z
    · subst z; exact ⟨_, List.mem_cons_self, a⟩
    · obtain ⟨r, m, n⟩ := ih d z; exact ⟨r, List.mem_cons_of_mem _ m, n⟩
theorem NumL.app {ds es : List D} {rs qs : List Rat} (h : NumL ds rs) (g : NumL es qs) : NumL (ds ++ es) (rs ++ qs) := by
  induction h with
  | nil => exact g
  | cons a _ ih => exact .cons a ih
theorem number_val {d : D} {r : Rat} (h : Num d r) : f_is_number [d] = .ret (.bl true) := by
  cases h with
  | q p => exact isNum_ratio _ _
  | i i => exact isNum_int _
theorem int_div1 (i : Int) : Rat.divInt i 1 = (i : Rat) := by
  have := Rat.num_divInt_den (i : Rat)
  rw [Rat.num_intCast, Rat.den_intCast] at this
  exact this
theorem compT_num {i : Nat} {me : Rho → T D} {ρ : Rho} (h : ∀ d r, Num d r → me (ρ.set i (.val d)) = .ret (qR r)) : ∀ {ds : List D} {rs : List Rat} {acc : List D}, NumL ds rs → acc.length + ds.length ≤ 100000 → compT (gNm i) yesT me ρ ds acc = .ret (acc ++ rs.map qR)
  | [], _, acc, .nil, _ => by unfold compT; simp
  | d :: ds, r :: rs, acc, .cons n t, hl => by
    rw [List.length_cons] at hl
    have c : small acc = true := decide_eq_true (by omega)
    have e : compT (gNm i) yesT me ρ (d :: ds) acc = (me (ρ.set i (.val d))).bind fun y => cond (small acc) (compT (gNm i) yesT me ρ ds (acc ++ [y])) .fail := rfl
    rw [e, h d r n]
    show cond (small acc) _ _ = _
    rw [c]
    show compT (gNm i) yesT me ρ ds (acc ++ [qR r]) = _
    rw [compT_num h t (by simp; omega), List.append_assoc]
    rfl
def SeqOf (v : D) (ds : List D) : Prop := v = .lst ds ∨ v = .tup ds
theorem SeqOf.sq {v : D} {ds : List D} (h : SeqOf v ds) {ρ : Rho} {i : Nat} (hi : ρ[i]? = some (.val v)) : iSq i ρ = .ret ds := by
  unfold iSq
  rcases h with rfl | rfl <;> rw [hi]
theorem sTab : (("Table" : Str) == "Table") = true := by decide +kernel
theorem are_numbers_val {c : Nat} {v : D} {ds : List D} {rs : List Rat} (hv : SeqOf v ds) (h : NumL ds rs) (hc : ds.length = c) (h3 : c ≤ 3) : f_are_numbers [v, .int (c : Int)] = .ret (.bl true) := by
  have il : f_is_list [v] = .ret (.bl true) := by rcases hv with rfl | rfl <;> rfl
  have len : bLen [v] = .ret (.int (c : Int)) := by subst hc; rcases hv with rfl | rfl <;> rfl
  have comp : lComp [2] (iSq 0) (gNm 2) yesT (eCall 1 f_is_number (aCons (eVar 2) aNil)) [.val v, .val (.int (c : Int)), .un] = .ret (ds.map fun _ => .bl true) := by
    have e := hv.sq (ρ := [.val v, .val (.int (c : Int)), .un]) (i := 0) rfl
    unfold lComp
    rw [e]
    show compT (gNm 2) yesT _ [.val v, .val (.int (c : Int)), .un] ds [] = _
    rw [compT_map (f := fun _ => .bl true) (by simp; omega) fun d hd => ?_]
    · rfl
    · obtain ⟨r, _, n⟩ := h.mem d hd
      show (cond (1 == 1) (f_is_number [d]) .fail) = _
      exact number_val n
  have al := all_val (p := fun _ => true) ds
  have t : ds.all (fun _ => true) = true := by simp
  rw [t] at al
  simp only [f_are_numbers, runB, m_are_numbers, sRet, eAnd, eBin, eCall, eCa, eL, aCons, aNil, eVar, List.map_cons, List.map_nil, List.length_cons, List.length_nil, List.cons_append, List.nil_append, List.replicate, List.getElem?_cons_succ, List.getElem?_cons_zero, T.bind, BEq.rfl, cond, il, asB, len, eqI', decide_true, comp, al]
/-- rows as they are passed, and their numbers -/
inductive RowsL (c : Nat) : List D → List (List Rat) → Prop
  | nil : RowsL c [] []
  | cons {v : D} {ds : List D} {rs : List Rat} {vs : List D} {rss : List (List Rat)} : SeqOf v ds → NumL ds rs → ds.length = c → RowsL c vs rss → RowsL c (v :: vs) (rs :: rss)
theorem RowsL.len {c : Nat} {vs : List D} {rss : List (List Rat)} (h : RowsL c vs rss) : vs.length = rss.length := by
  induction h with
  | nil => rfl
  | cons _ _ _ _ ih => rw [List.length_cons, List.length_cons, ih]
theorem RowsL.mem {c : Nat} {vs : List D} {rss : List (List Rat)} (h : RowsL c vs rss) : ∀ v ∈ vs, ∃ ds rs, SeqOf v ds ∧ NumL ds rs ∧ ds.length = c := by
  induction h with
  | nil => intro v hv; cases hv
  | cons a b d _ ih =>
    intro v hv
    rcases List.mem_cons.mp hv with z | z
    · subst z; exact ⟨_, _, a, b, d⟩
    · exact ih v z
theorem RowsL.app {c : Nat} {vs us : List D} {rss qss : List (List Rat)} (h : RowsL c vs rss) (g : RowsL c us qss) : RowsL c (vs ++ us) (rss ++ qss) := by
  induction h with
  | nil => exact g
  | cons a b d _ ih => exact .cons a b d ih
theorem gtI (i j : Int) : opGt (.int i) (.int j) = .ret (.bl (decide (j < i))) := rfl
def rowD (rs : List Rat) : D := .lst (rs.map qR)
def tabF (c : Nat) (rss : List (List Rat)) : List (Str × D) := [("_columns", .int (c : Int)), ("_rows", .lst (rss.map rowD))]
def tabD (c : Nat) (rss : List (List Rat)) : D := .ins "Table" (tabF c rss)
theorem columns_val (c : Nat) (hc : c ≤ 3) : f_need_columns [.int (c : Int)] = .ret .non := by
  have : c = 0 ∨ c = 1 ∨ c = 2 ∨ c = 3 := by omega
  rcases this with rfl | rfl | rfl | rfl <;> exact rfl
@[irreducible] def rowsE : Rho → T D := eL (lComp [3] (iSq 2) (gNm 3) yesT (eL (lComp [4] (iSq 3) (gNm 4) yesT (eCall 1 f_as_ratio (aCons (eVar 4) aNil)))))
theorem rows_comp {c : Nat} {me : Rho → T D} {ρ : Rho} (hm : ∀ v ds rs, SeqOf v ds → NumL ds rs → ds.length = c → me (ρ.set 3 (.val v)) = .ret (rowD rs)) : ∀ {vs : List D} {rss : List (List Rat)} {acc : List D}, RowsL c vs rss → acc.length + vs.length ≤ 100000 → compT (gNm 3) yesT me ρ vs acc = .ret (acc ++ rss.map rowD)
  | [], _, acc, .nil, _ => by unfold compT; simp
  | v :: vs, rs :: rss, acc, .cons a b d t, hl => by
    rw [List.length_cons] at hl
    have s : small acc = true := decide_eq_true (by omega)
    have e : compT (gNm 3) yesT me ρ (v :: vs) acc = (me (ρ.set 3 (.val v))).bind fun y => cond (small acc) (compT (gNm 3) yesT me ρ vs (acc ++ [y])) .fail := rfl
    rw [e, hm v _ rs a b d]
    show cond (small acc) _ _ = _
    rw [s]
    show compT (gNm 3) yesT me ρ vs (acc ++ [rowD rs]) = _
    rw [rows_comp hm t (by simp; omega), List.append_assoc]
    rfl
theorem nCol : (("_rows" : Str) == "_columns") = false := by decide +kernel
theorem draw_val {n : Nat} (a : 0 < n) (b : n ≤ 1000000) : f__law_draw [.pot, .int (n : Int)] = .draw n fun i => .ret (.int (i : Int)) := by
  have e1 : decide ((0 : Int) < (n : Int)) = true := decide_eq_true (by omega)
  have e2 : decide ((n : Int) ≤ 1000000) = true := decide_eq_true (by omega)
  unfold f__law_draw
  dsimp only
  rw [e1, e2]
  rfl
/-- a draw in an expression -/
theorem drawE {ρ : Rho} {i n : Nat} {m : Rho → T D} (h : ρ[i]? = some (.val .pot)) (hm : m ρ = .ret (.int (n : Int))) (a : 0 < n) (b : n ≤ 1000000) : eCall 2 f__law_draw (aCons (eVar i) (aCons m aNil)) ρ = .draw n fun i => .ret (.int (i : Int)) := by
  have e : eCall 2 f__law_draw (aCons (eVar i) (aCons m aNil)) ρ = f__law_draw [.pot, .int (n : Int)] := by
    simp only [eCall, aCons, aNil, eVar, h, hm, T.bind, List.length_cons, List.length_nil, BEq.rfl, cond]
  rw [e, draw_val a b]
theorem app_val {ρ : Rho} {i : Nat} {ds : List D} {m : Rho → T D} {d : D} (h : ρ[i]? = some (.own ds)) (hm : m ρ = .ret d) (l : ds.length ≤ 100000) : sApp i m ρ = .ret (.nx (ρ.set i (.own (ds ++ [d])))) := by
  have c : small ds = true := decide_eq_true l
  simp only [sApp, h, hm, T.bind, c, cond]
theorem app_all {ρ : Rho} {i : Nat} {ds : List D} {m : Rho → T D} {P : Out → Prop} (h : ρ[i]? = some (.own ds)) (l : ds.length ≤ 100000) (hm : (m ρ).all fun d => P (.nx (ρ.set i (.own (ds ++ [d]))))) : (sApp i m ρ).all P := by
  have c : small ds = true := decide_eq_true l
  have e : sApp i m ρ = (m ρ).bind fun d => .ret (.nx (ρ.set i (.own (ds ++ [d])))) := by
    simp only [sApp, h, c, cond]
  rw [e]
  exact T.all_bind.mpr hm
/-- lists of Ratios by a function -/
def fl (f : Nat → Rat) (n : Nat) : List D := (List.range n).map fun a => qR (f a)
theorem tup2 {ρ : Rho} {a b : Rho → T D} {x y : D} (ha : a ρ = .ret x) (hb : b ρ = .ret y) : eTup (aCons a (aCons b aNil)) ρ = .ret (.tup [x, y]) := by
  simp only [eTup, aCons, aNil, ha, hb, T.bind, small2, cond]
theorem small3 (x y z : D) : small [x, y, z] = true := small_of (by simp)
theorem draw_ct {ρ : Rho} {n : Nat} {m : Rho → T D} (hp : ρ[0]? = some (.val .pot)) (e : m ρ = .ret (.int (n : Int))) (h0 : 0 < n) (h1 : n ≤ 1000) {P : D → Prop} (h : ∀ k : Nat, k < n → P (.int (k : Int))) : (eCall 2 f__law_draw (aCons (eVar 0) (aCons m aNil)) ρ).all P := by
  have dr := drawE (ρ := ρ) (i := 0) (n := n) (m := m) hp e h0 (by omega)
  exact all_dr dr h
@[irreducible] def pkF : List D → T D := f__law_pick
theorem pick_all {ds : List D} {P : D → Prop} (h0 : 0 < ds.length) (h1 : ds.length ≤ 1000) (h : ∀ d ∈ ds, P d) : (pkF [.pot, .lst ds]).all P := by
  have ln : eCa bLen (aCons (eVar 1) aNil) [.val .pot, .val (.lst ds)] = .ret (.int (ds.length : Int)) := rfl
  have dr := drawE (ρ := [.val .pot, .val (.lst ds)]) (i := 0) rfl ln h0 (by omega)
  unfold pkF f__law_pick
  refine T.all_bind.mpr ?_
  show T.all _ (sRet (eBin ixD (eVar 1) (eCall 2 f__law_draw (aCons (eVar 0) (aCons (eCa bLen (aCons (eVar 1) aNil)) aNil)))) [.val .pot, .val (.lst ds)])
  refine T.all_bind.mpr (bin_all (all_eq (a := .lst ds) rfl (all_dr dr fun i hi => ?_)))
  show T.all _ (ixD (.lst ds) (.int (i : Int)))
  have a : atI ds (i : Int) = some ds[i] := by
    unfold atI ixN
    rw [if_pos (by omega), if_pos (by omega)]
    show ds[(i : Int).toNat]? = _
    rw [Int.toNat_natCast, List.getElem?_eq_getElem hi]
  show T.all _ (ixL ds (.int (i : Int)))
  unfold ixL
  dsimp only
  rw [a]
  exact h _ (List.getElem_mem hi)
theorem pickE_all {ρ : Rho} {i : Nat} {m : Rho → T D} {ds : List D} {P : D → Prop} (hp : ρ[i]? = some (.val .pot)) (hm : m ρ = .ret (.lst ds)) (h0 : 0 < ds.length) (h1 : ds.length ≤ 1000) (h : ∀ d ∈ ds, P d) : (eCall 2 pkF (aCons (eVar i) (aCons m aNil)) ρ).all P :=
  call2_all (all_eq (var_val hp) (all_eq hm (pick_all h0 h1 h)))
abbrev G (h n : Nat) (v : D) : Prop := GT rRat h n v
def gB (h n : Nat) (v : D) : Bool := match D.tx rRat v with
  | some t => decide (t.length ≤ n) && decide (D.hgt v ≤ h)
  | none => false
theorem gOf {h n : Nat} {v : D} (e : gB h n v = true) : G h n v := by
  unfold gB at e
  split at e
  · rename_i t ht
    simp only [Bool.and_eq_true, decide_eq_true_eq] at e
    exact ⟨t, ht, e.1, e.2⟩
  · cases e
section
variable {V : Type}
theorem seq_len {v : D} {ds : List D} (hv : SeqOf v ds) : bLen [v] = .ret (.int (ds.length : Int)) := by rcases hv with rfl | rfl <;> rfl
theorem v_and {a b : Rho → T D} {ρ : Rho} {x : D} (h : a ρ = .ret (.bl true)) (h2 : b ρ = .ret x) : eAnd a b ρ = .ret x := by
  unfold eAnd
  rw [h]
  exact h2
theorem v_and_f {a b : Rho → T D} {ρ : Rho} (h : a ρ = .ret (.bl false)) : eAnd a b ρ = .ret (.bl false) := by
  unfold eAnd
  rw [h]
  rfl
theorem leI (i j : Int) : opLe (.int i) (.int j) = .ret (.bl (decide (i ≤ j))) := rfl
end
section
variable {V : Type}
theorem compT_g {g : D → Rho → T Rho} {me : Rho → T D} {ρ : Rho} {e f : V → D} : ∀ {ks : List V} {acc : List D}, acc.length + ks.length ≤ 100000 → (∀ k ∈ ks, ∃ S, g (e k) ρ = .ret S ∧ me S = .ret (f k)) → compT g yesT me ρ (ks.map e) acc = .ret (acc ++ ks.map f)
  | [], acc, _, _ => by simp [compT]
  | k :: ks, acc, hl, h => by
    rw [List.length_cons] at hl
    obtain ⟨S, h1, h2⟩ := h k List.mem_cons_self
    have s : small acc = true := small_of (by omega)
    have y : yesT S = .ret true := rfl
    rw [List.map_cons, compT]
    simp only [h1, T.bind, y, cond, h2, s]
    rw [compT_g (by rw [List.length_append, List.length_singleton]; omega) fun a ha => h a (List.mem_cons_of_mem _ ha), List.append_assoc]
    rfl
theorem comp_g {vs : List Nat} {it : Rho → T (List D)} {g : D → Rho → T Rho} {me : Rho → T D} {ρ : Rho} {e f : V → D} {ks : List V} (hi : it ρ = .ret (ks.map e)) (hl : ks.length ≤ 100000) (h : ∀ k ∈ ks, ∃ S, g (e k) (wipeR ρ vs) = .ret S ∧ me S = .ret (f k)) : lComp vs it g yesT me ρ = .ret (ks.map f) := by
  unfold lComp
  rw [hi]
  show compT g yesT me (wipeR ρ vs) (ks.map e) [] = _
  rw [compT_g (by rw [List.length_nil]; omega) h, List.nil_append]
end
theorem it_lst {m : Rho → T D} {ρ : Rho} {ds : List D} (h : m ρ = .ret (.lst ds)) : iLst m ρ = .ret ds := by
  unfold iLst
  rw [h]
  rfl
theorem ca_list {m : Rho → T D} {ρ : Rho} {ds : List D} (h : m ρ = .ret (.lst ds)) : lCa bList (aCons m aNil) ρ = .ret ds := by
  simp only [lCa, aCons, aNil, h, T.bind, bList]
section
variable {c : Nat} {st : Ri} {sp sq : List (Lt' × Mi)} {la lb : List (Lt' × Ri)} {ρ : Rho} {m : Rho → T D}
@[irreducible] def opER : D → D → T D := opOr (opEqD false eRat) opEqF (fun x _ => isBig x)
theorem hgt_le {h : Nat} : ∀ {ds : List D}, (∀ d ∈ ds, D.hgt d ≤ h) → D.hgts ds ≤ h
  | [], _ => Nat.zero_le _
  | d :: ds, q => Nat.max_le.mpr ⟨q d List.mem_cons_self, hgt_le fun x hx => q x (List.mem_cons_of_mem _ hx)⟩
end
theorem cut_lo {xs : List D} {i : Nat} (h : i ≤ xs.length) : cutD xs none (some (i : Int)) = xs.take i := by
  unfold cutD
  rw [HT.sIx_none, HT.sIx_nat, List.drop_zero, Nat.sub_zero, Nat.min_eq_left h]
theorem cut_hi {xs : List D} {i : Nat} (h : i ≤ xs.length) : cutD xs (some (i : Int)) none = xs.drop i := by
  unfold cutD
  rw [HT.sIx_none, HT.sIx_nat, Nat.min_eq_left h]
  exact List.take_of_length_le (by rw [List.length_drop]; exact Nat.le_refl _)
section
variable {c : Nat} {ls : List (List Nat)} {rss qss : List (List Rat)}
theorem numL_of : ∀ rs : List Rat, NumL (rs.map qR) rs
  | [] => .nil
  | r :: rs => .cons (.q r) (numL_of rs)
theorem rowsL_of : ∀ {rss : List (List Rat)}, (∀ rs ∈ rss, rs.length = c) → RowsL c (rss.map rowD) rss
  | [], _ => .nil
  | rs :: rss, h => .cons (.inl rfl) (numL_of rs) (by rw [List.length_map]; exact h rs List.mem_cons_self) (rowsL_of fun r hr => h r (List.mem_cons_of_mem _ hr))
@[irreducible] def tuF : List D → T D := f_turned
@[irreducible] def joF : List D → T D := f_joined
theorem place_val {n : Nat} (h : n ≤ 40) : f_need_place_for_rows [.int (n : Int)] = .ret .non := by
  have big : decide ((40 : Int) < (n : Int)) = false := decide_eq_false (by omega)
  simp only [f_need_place_for_rows, runB, m_need_place_for_rows, sIf, eTest, eBin, eVar, eC, bNil, List.map_cons, List.map_nil, List.cons_append, List.nil_append, List.getElem?_cons_zero, T.bind, gtI, big, asB, cond]
end
end Pd
namespace Pd
open PySem L2 PySem.Spec PyProof.Rows
theorem cRT : (["Ratio", "Table"] : List Str).contains ("Ratio" : Str) = true := by decide +kernel
theorem isR_q (q : Rat) : isOC ["Ratio", "Table"] "Ratio" (qR q) = .ret (.bl true) := by
  unfold qR ratio isOC
  simp only [cRT, sRR, cond]
theorem as_ratio_val {d : D} {r : Rat} (h : Num d r) : f_as_ratio [d] = .ret (qR r) := by
  cases h with
  | q p =>
    simp only [f_as_ratio, runB, m_as_ratio, bSeq, sIf, sRet, eTest, eUn, eVar, List.map_cons, List.map_nil, List.cons_append, List.nil_append, List.getElem?_cons_zero, T.bind, isR_q, asB, cond]
  | i i =>
    have e : isOC ["Ratio", "Table"] "Ratio" (.int i) = .ret (.bl false) := rfl
    have mk := init_val (t := i) (b := 1) (by decide) (by decide)
    have z : D.ins "Ratio" [("_top", .int (i.fdiv (ratioBy i 1))), ("_bottom", .int ((1 : Int).fdiv (ratioBy i 1)))] = qR (i : Rat) := by
      rw [← int_div1, ← lowR_rat (by decide)]
      rfl
    simp only [f_as_ratio, runB, m_as_ratio, bSeq, sIf, sRet, bNil, eTest, eUn, eVar, eMake, aCons, aNil, List.map_cons, List.map_nil, List.length_cons, List.length_nil, List.cons_append, List.nil_append, List.getElem?_cons_zero, T.bind, e, asB, BEq.rfl, cond, mk, z]
theorem need_table_val (c : Nat) (rss : List (List Rat)) : f_need_table [tabD c rss] = .ret .non := by
  have e : isOC ["Ratio", "Table"] "Table" (tabD c rss) = .ret (.bl true) := by
    unfold tabD isOC
    simp only [sTab, cond]
  simp only [f_need_table, runB, m_need_table, sIf, tNot', eTest, eUn, eVar, bNil, List.map_cons, List.map_nil, List.cons_append, List.nil_append, List.getElem?_cons_zero, T.bind, e, asB, Bool.not_true, cond]
theorem sRows : (("_rows" : Str) == "_rows") = true := by decide +kernel
theorem sCols : (("_columns" : Str) == "_columns") = true := by decide +kernel
theorem v_un {ρ : Rho} {a : Rho → T D} {x z : D} {f : D → T D} (ha : a ρ = .ret x) (h : f x = .ret z) : eUn f a ρ = .ret z := by
  unfold eUn
  rw [ha]
  exact h
theorem rows_attr (c : Nat) (rss : List (List Rat)) : attrD "Table" "_rows" (tabD c rss) = .ret (.lst (rss.map rowD)) := by
  unfold tabD tabF attrD
  simp only [sTab, cond, fieldD, nCol, sRows, optT]
theorem cols_attr (c : Nat) (rss : List (List Rat)) : attrD "Table" "_columns" (tabD c rss) = .ret (.int (c : Int)) := by
  unfold tabD tabF attrD
  simp only [sTab, cond, fieldD, sCols, optT]
theorem columns_of (c : Nat) (rss : List (List Rat)) : f_Table_columns [tabD c rss] = .ret (.int (c : Int)) := by
  simp only [f_Table_columns, runB, m_Table_columns, sRet, eUn, eVar, List.map_cons, List.map_nil, List.cons_append, List.nil_append, List.getElem?_cons_zero, T.bind, cols_attr]
theorem height_of (c : Nat) (rss : List (List Rat)) : f_Table_height [tabD c rss] = .ret (.int (rss.length : Int)) := by
  have e : bLen [.lst (rss.map rowD)] = .ret (.int (rss.length : Int)) := by
    show T.ret (D.int ((rss.map rowD).length : Int)) = _
    rw [List.length_map]
  simp only [f_Table_height, runB, m_Table_height, sRet, eCa, aCons, aNil, eUn, eVar, List.map_cons, List.map_nil, List.cons_append, List.nil_append, List.getElem?_cons_zero, T.bind, rows_attr, e]
theorem rows_of {c : Nat} {rss : List (List Rat)} (h : rss.length ≤ 40) (h3 : ∀ rs ∈ rss, rs.length ≤ 3) : f_Table_rows [tabD c rss] = .ret (rss.map rowD) := by
  have it : iLst (eUn (attrD "Table" "_rows") (eVar 0)) [.val (tabD c rss), .un] = .ret (rss.map rowD) := by
    simp only [iLst, eUn, eVar, List.getElem?_cons_zero, T.bind, rows_attr, asL]
  show lComp [1] (iLst (eUn (attrD "Table" "_rows") (eVar 0))) (gNm 1) yesT (eL (lCa bList (aCons (eVar 1) aNil))) [.val (tabD c rss), .un] = _
  unfold lComp
  rw [it]
  show compT (gNm 1) yesT _ [.val (tabD c rss), .un] (rss.map rowD) [] = _
  rw [compT_map (f := fun d => d) (by simp; omega) fun d hd => ?_]
  · simp
  · obtain ⟨rs, hr, rfl⟩ := List.mem_map.mp hd
    have s : small (rs.map qR) = true := small_of (by have := h3 rs hr; simp; omega)
    show (eL (lCa bList (aCons (eVar 1) aNil)) [.val (tabD c rss), .val (rowD rs)]) = _
    unfold rowD
    simp only [eL, lCa, aCons, aNil, eVar, List.getElem?_cons_succ, List.getElem?_cons_zero, T.bind, bList, s, cond]
theorem isC_tab (c : Nat) (rss : List (List Rat)) : isC "Table" (tabD c rss) = .ret () := by
  unfold tabD isC
  simp only [sTab, cond]
theorem sRow2 : (("rows" : Str) == "_columns") = false ∧ (("rows" : Str) == "_rows") = false := by decide +kernel
theorem insD_tab (c : Nat) (rss : List (List Rat)) : insD "Table" "rows" (tabD c rss) = .ret () := by
  unfold tabD insD tabF
  simp [sTab, fieldD, sRow2.1, sRow2.2]
theorem rev_val {m : Rho → T D} {ρ : Rho} {ds : List D} (h : m ρ = .ret (.lst ds)) : lRev m ρ = .ret ds.reverse := by
  unfold lRev
  rw [h]
  rfl
inductive Fn : D → Prop
  | non : Fn .non
  | bl (b : Bool) : Fn (.bl b)
  | int (i : Int) : Fn (.int i)
  | str (x : Str) : Fn (.str x)
  | dik (kvs : List (Int × Int)) : Fn (.dik kvs)
  | q (r : Rat) : Fn (qR r)
  | lst {ds : List D} : ds.length ≤ 1000 → (∀ d ∈ ds, Fn d) → Fn (.lst ds)
  | tup {ds : List D} : ds.length ≤ 1000 → (∀ d ∈ ds, Fn d) → Fn (.tup ds)
def isN : D → Bool
  | .int _ => true
  | .ins _ _ => true
  | _ => false
def isSeq : D → Bool
  | .lst _ => true
  | .tup _ => true
  | _ => false
def els : D → List D
  | .lst ds => ds
  | .tup ds => ds
  | _ => []
def isRow (c : Nat) (v : D) : Bool := isSeq v && (decide ((els v).length = c) && (els v).all isN)
def isRows (c : Nat) (v : D) : Bool := isSeq v && (decide ((els v).length ≤ 40) && (els v).all (isRow c))
theorem isD2_q (r : Rat) : isD2 ["Ratio", "Table"] .list .tuple (qR r) = .ret (.bl false) := by
  unfold qR ratio isD2
  simp only [cRT, cond]
theorem isD2_is {d : D} (h : Fn d) : isD2 ["Ratio", "Table"] .list .tuple d = .ret (.bl (isSeq d)) := by
  cases h with
  | q r => exact isD2_q r
  | _ => rfl
theorem list_is {d : D} (h : Fn d) : f_is_list [d] = .ret (.bl (isSeq d)) := v_run (ρ := [.val d]) rfl (v_ret (v_un (x := d) rfl (isD2_is h)))
theorem num_is {d : D} (h : Fn d) : f_is_number [d] = .ret (.bl (isN d)) := by
  cases h with
  | q r => exact number_val (.q r)
  | int i => exact number_val (.i i)
  | _ => rfl
theorem lawnum_is {d : D} (h : Fn d) : f__law_is_number [d] = .ret (.bl (isN d)) := by
  cases h with
  | q r =>
    refine v_run (ρ := [.val (qR r)]) rfl (v_ret ?_)
    unfold eOr
    rw [v_un (x := qR r) rfl (isR_q r)]
    rfl
  | _ => rfl
theorem seq_lst {d : D} (h : isSeq d = true) : SeqOf d (els d) := by
  cases d with
  | lst ds => exact .inl rfl
  | tup ds => exact .inr rfl
  | _ => cases h
theorem Fn.els {d : D} (h : Fn d) : (els d).length ≤ 1000 ∧ ∀ x ∈ els d, Fn x := by
  cases h with
  | lst a b => exact ⟨a, b⟩
  | tup a b => exact ⟨a, b⟩
  | _ => exact ⟨Nat.zero_le _, fun x hx => by cases hx⟩
theorem all_is {i : Nat} {it : Rho → T (List D)} {me : Rho → T D} {ρ : Rho} {ds : List D} {p : D → Bool} (hi : it ρ = .ret ds) (hl : ds.length ≤ 100000) (h : ∀ d ∈ ds, me ((wipeR ρ [i]).set i (.val d)) = .ret (.bl (p d))) : eCa bAll (aCons (eL (lComp [i] it (gNm i) yesT me)) aNil) ρ = .ret (.bl (ds.all p)) := by
  have c : lComp [i] it (gNm i) yesT me ρ = .ret (ds.map fun d => .bl (p d)) := by
    unfold lComp
    rw [hi]
    show compT (gNm i) yesT me (wipeR ρ [i]) ds [] = _
    rw [compT_map (f := fun d => .bl (p d)) (by simp; omega) h]
    rfl
  exact v_ca (v_L c) (all_val ds)
theorem len_seq {d : D} (h : isSeq d = true) : bLen [d] = .ret (.int ((els d).length : Int)) := seq_len (seq_lst h)
theorem natI (a b : Nat) : decide ((a : Int) = (b : Int)) = decide (a = b) := decide_eq_decide.mpr (by omega)
theorem numbers_is {c : Nat} {v : D} (h : Fn v) : f_are_numbers [v, .int (c : Int)] = .ret (.bl (isRow c v)) := by
  refine v_run (ρ := [.val v, .val (.int (c : Int)), .un]) rfl (v_ret ?_)
  have a1 : eCall 1 f_is_list (aCons (eVar 0) aNil) [.val v, .val (.int (c : Int)), .un] = .ret (.bl (isSeq v)) := v_call1 (x := v) rfl (list_is h)
  unfold isRow
  cases hs : isSeq v with
  | false =>
    rw [hs] at a1
    exact v_and_f a1
  | true =>
    rw [hs] at a1
    refine v_and a1 ?_
    have a2 : eBin opEqF (eCa bLen (aCons (eVar 0) aNil)) (eVar 1) [.val v, .val (.int (c : Int)), .un] = .ret (.bl (decide ((els v).length = c))) := v_bin (y := .int (c : Int)) (v_ca (x := v) rfl (len_seq hs)) rfl (by rw [eqI', natI])
    cases hc : decide ((els v).length = c) with
    | false =>
      rw [hc] at a2
      exact v_and_f a2
    | true =>
      rw [hc] at a2
      refine v_and a2 ?_
      exact all_is ((seq_lst hs).sq rfl) (by have := h.els.1; omega) fun d hd => v_call1 (x := d) rfl (num_is (h.els.2 d hd))
theorem v_tor' {ρ : Rho} {t t2 : Rho → T Bool} {p q : Bool} (h : t ρ = .ret p) (h2 : p = false → t2 ρ = .ret q) : tOr' t t2 ρ = .ret (p || q) := by
  cases p with
  | true =>
    unfold tOr'
    rw [h]
    rfl
  | false =>
    unfold tOr'
    rw [h]
    exact h2 rfl
theorem rows_is {c : Nat} {v : D} (h : Fn v) : f_are_rows [.int (c : Int), v] = .ret (.bl (isRows c v)) := by
  refine v_run (ρ := [.val (.int (c : Int)), .val v, .un]) rfl ?_
  have a1 : tNot' (eTest (eCall 1 f_is_list (aCons (eVar 1) aNil))) [.val (.int (c : Int)), .val v, .un] = .ret (!isSeq v) := v_not (v_test (v_call1 (x := v) rfl (list_is h)))
  have a2 : (!isSeq v) = false → eTest (eBin opGt (eCa bLen (aCons (eVar 1) aNil)) (eC (.int 40))) [.val (.int (c : Int)), .val v, .un] = .ret (!decide ((els v).length ≤ 40)) := fun hs => by
    have hs : isSeq v = true := by simpa using hs
    refine v_test (v_bin (y := .int 40) (v_ca (x := v) rfl (len_seq hs)) rfl ?_)
    rw [gtI]
    congr 2
    rw [Bool.eq_iff_iff]
    simp
    omega
  have t := v_tor' a1 a2
  unfold isRows
  cases hb : isSeq v with
  | false =>
    rw [hb] at t
    exact v_ift t rfl
  | true =>
    rw [hb] at t
    cases h4 : decide ((els v).length ≤ 40) with
    | false =>
      rw [h4] at t
      exact v_ift t rfl
    | true =>
      rw [h4] at t
      refine v_iff t (v_ret ?_)
      exact all_is ((seq_lst hb).sq rfl) (by have := h.els.1; omega) fun d hd => v_call2 (x := d) (y := .int (c : Int)) rfl rfl (numbers_is (h.els.2 d hd))
end Pd
namespace Pd
open PySem L2 PySem.Spec PyProof.Rows
theorem rowsE_seq {c : Nat} {v : D} {vs : List D} {rss : List (List Rat)} (hv : SeqOf v vs) (h : RowsL c vs rss) (h3 : c ≤ 3) (h40 : vs.length ≤ 40) : rowsE [.un, .val (.int (c : Int)), .val v, .un, .un] = .ret (.lst (rss.map rowD)) := by
  have inner : ∀ v2 ds rs, SeqOf v2 ds → NumL ds rs → ds.length = c → eL (lComp [4] (iSq 3) (gNm 4) yesT (eCall 1 f_as_ratio (aCons (eVar 4) aNil))) [.un, .val (.int (c : Int)), .val v, .val v2, .un] = .ret (rowD rs) := fun v2 ds rs a b e => by
    have q := a.sq (ρ := [.un, .val (.int (c : Int)), .val v, .val v2, .un]) (i := 3) rfl
    have e2 : lComp [4] (iSq 3) (gNm 4) yesT (eCall 1 f_as_ratio (aCons (eVar 4) aNil)) [.un, .val (.int (c : Int)), .val v, .val v2, .un] = .ret (rs.map qR) := by
      unfold lComp
      rw [q]
      show compT (gNm 4) yesT _ [.un, .val (.int (c : Int)), .val v, .val v2, .un] ds [] = _
      rw [compT_num (fun d r n => ?_) b (by simp; omega)]
      · rfl
      · show (cond (1 == 1) (f_as_ratio [d]) .fail) = _
        exact as_ratio_val n
    simp only [eL, e2, T.bind]
    rfl
  have outer : lComp [3] (iSq 2) (gNm 3) yesT (eL (lComp [4] (iSq 3) (gNm 4) yesT (eCall 1 f_as_ratio (aCons (eVar 4) aNil)))) [.un, .val (.int (c : Int)), .val v, .un, .un] = .ret (rss.map rowD) := by
    have q := hv.sq (ρ := [.un, .val (.int (c : Int)), .val v, .un, .un]) (i := 2) rfl
    unfold lComp
    rw [q]
    show compT (gNm 3) yesT _ [.un, .val (.int (c : Int)), .val v, .un, .un] vs [] = _
    rw [rows_comp (c := c) (fun v ds rs a b e => inner v ds rs a b e) h (by simp; omega)]
    rfl
  unfold rowsE
  simp only [eL, outer, T.bind]
@[irreducible] def fldsE : MI := iFld "_columns" (eVar 1) (iFld "_rows" rowsE iNil)
theorem flds_val {c : Nat} {v : D} {vs : List D} {rss : List (List Rat)} (hv : SeqOf v vs) (h : RowsL c vs rss) (h3 : c ≤ 3) (h40 : vs.length ≤ 40) : fldsE [.un, .val (.int (c : Int)), .val v, .un, .un] [] = .ret (tabF c rss) := by
  have f1 : fieldD "_columns" [] = none := rfl
  have f2 : fieldD "_rows" [("_columns", D.int (c : Int))] = none := by
    unfold fieldD
    rw [nCol]
    rfl
  have d1 : decide (([] : List (Str × D)).length < 100) = true := rfl
  have d2 : decide (([("_columns", D.int (c : Int))] : List (Str × D)).length < 100) = true := rfl
  unfold fldsE
  simp only [iFld, iNil, eVar, List.getElem?_cons_succ, List.getElem?_cons_zero, T.bind, cond, f1, Option.isNone_none, d1, Bool.and_self, List.nil_append, f2, d2, rowsE_seq hv h h3 h40]
  rfl
@[irreducible] def arF : List D → T D := f_are_rows
@[irreducible] def arT : Rho → T Bool := tNot' (eTest (eCall 2 arF (aCons (eVar 1) (aCons (eVar 2) aNil))))
theorem ar_is {c : Nat} {v : D} (h : Fn v) : arF [.int (c : Int), v] = .ret (.bl (isRows c v)) := by
  unfold arF
  exact rows_is h
theorem arT_is {c : Nat} {v : D} (h : Fn v) : arT [.un, .val (.int (c : Int)), .val v, .un, .un] = .ret (!isRows c v) := by
  unfold arT
  exact v_not (v_test (v_call2 (x := .int (c : Int)) (y := v) rfl rfl (ar_is h)))
theorem init_eq : m_Table_init = iChk (eCall 1 f_need_columns (aCons (eVar 1) aNil)) (iIf arT fldsE) := by
  unfold m_Table_init arT arF fldsE rowsE
  rfl
theorem Fn.rowsL {c : Nat} : ∀ {ds : List D}, (∀ d ∈ ds, Fn d) → ds.all isN = true → ∃ rs, NumL ds rs
  | [], _, _ => ⟨[], .nil⟩
  | d :: ds, h, a => by
    rw [List.all_cons, Bool.and_eq_true] at a
    obtain ⟨rs, n⟩ := Fn.rowsL (c := c) (fun x hx => h x (List.mem_cons_of_mem _ hx)) a.2
    have f := h d List.mem_cons_self
    have a1 := a.1
    cases f with
    | int i => exact ⟨_, .cons (.i i) n⟩
    | q r => exact ⟨_, .cons (.q r) n⟩
    | _ => cases a1
theorem Fn.rows {c : Nat} : ∀ {vs : List D}, (∀ d ∈ vs, Fn d) → vs.all (isRow c) = true → ∃ rss, RowsL c vs rss
  | [], _, _ => ⟨[], .nil⟩
  | d :: ds, h, a => by
    rw [List.all_cons, Bool.and_eq_true] at a
    obtain ⟨rss, n⟩ := Fn.rows (fun x hx => h x (List.mem_cons_of_mem _ hx)) a.2
    have a1 := a.1
    unfold isRow at a1
    rw [Bool.and_eq_true, Bool.and_eq_true, decide_eq_true_iff] at a1
    have f := (h d List.mem_cons_self).els
    obtain ⟨rs, m⟩ := Fn.rowsL (c := c) f.2 a1.2.2
    exact ⟨_, .cons (seq_lst a1.1) m a1.2.1 n⟩
theorem Fn.tab {c : Nat} {v : D} (h : Fn v) (r : isRows c v = true) : ∃ rss, RowsL c (Pd.els v) rss ∧ SeqOf v (Pd.els v) ∧ (Pd.els v).length ≤ 40 := by
  unfold isRows at r
  rw [Bool.and_eq_true, Bool.and_eq_true, decide_eq_true_iff] at r
  obtain ⟨rss, R⟩ := Fn.rows h.els.2 r.2.2
  exact ⟨rss, R, seq_lst r.1, r.2.1⟩
theorem isRow_of {c : Nat} {v : D} {ds : List D} {rs : List Rat} (a : SeqOf v ds) (b : NumL ds rs) (e : ds.length = c) : isRow c v = true := by
  have s : isSeq v = true := by rcases a with rfl | rfl <;> rfl
  have l : els v = ds := by rcases a with rfl | rfl <;> rfl
  unfold isRow
  rw [s, l, decide_eq_true e]
  show ds.all isN = true
  rw [List.all_eq_true]
  intro d hd
  obtain ⟨r, _, n⟩ := b.mem d hd
  cases n with
  | q p => rfl
  | i i => rfl
theorem isRows_of {c : Nat} {v : D} {vs : List D} {rss : List (List Rat)} (hv : SeqOf v vs) (h : RowsL c vs rss) (h40 : vs.length ≤ 40) : isRows c v = true := by
  have s : isSeq v = true := by rcases hv with rfl | rfl <;> rfl
  have l : els v = vs := by rcases hv with rfl | rfl <;> rfl
  unfold isRows
  rw [s, l, decide_eq_true h40]
  show vs.all (isRow c) = true
  rw [List.all_eq_true]
  intro d hd
  obtain ⟨ds, rs, a, b, e⟩ := h.mem d hd
  exact isRow_of a b e
theorem Num.fn {d : D} {r : Rat} (h : Num d r) : Fn d := by
  cases h with
  | q r => exact .q r
  | i i => exact .int i
theorem SeqOf.fn {v : D} {ds : List D} (h : SeqOf v ds) (l : ds.length ≤ 1000) (f : ∀ d ∈ ds, Fn d) : Fn v := by
  rcases h with rfl | rfl
  · exact .lst l f
  · exact .tup l f
theorem RowsL.fns {c : Nat} {vs : List D} {rss : List (List Rat)} (h : RowsL c vs rss) (h3 : c ≤ 3) : ∀ v ∈ vs, Fn v := fun v hv => by
  obtain ⟨ds, rs, a, b, e⟩ := h.mem v hv
  exact a.fn (by omega) fun d hd => by
    obtain ⟨r, _, n⟩ := b.mem d hd
    exact n.fn
theorem RowsL.fn {c : Nat} {v : D} {vs : List D} {rss : List (List Rat)} (hv : SeqOf v vs) (h : RowsL c vs rss) (h3 : c ≤ 3) (h40 : vs.length ≤ 40) : Fn v := hv.fn (by omega) (h.fns h3)
theorem table_val {c : Nat} {v : D} {vs : List D} {rss : List (List Rat)} (hv : SeqOf v vs) (h : RowsL c vs rss) (h3 : c ≤ 3) (h40 : vs.length ≤ 40) : f_Table_init [.int (c : Int), v] = .ret (tabF c rss) := by
  have ar := arT_is (c := c) (h.fn hv h3 h40)
  rw [isRows_of hv h h40] at ar
  show m_Table_init [.un, .val (.int (c : Int)), .val v, .un, .un] [] = _
  rw [init_eq]
  simp only [iChk, iIf, eCall, aCons, aNil, eVar, List.length_cons, List.length_nil, List.getElem?_cons_succ, List.getElem?_cons_zero, T.bind, BEq.rfl, cond, columns_val c h3, ar, Bool.not_true, flds_val hv h h3 h40]
theorem makeT {c : Nat} {ρ : Rho} {a b : Rho → T D} {v : D} {vs : List D} {rss : List (List Rat)} (ha : a ρ = .ret (.int (c : Int))) (hb : b ρ = .ret v) (hv : SeqOf v vs) (h : RowsL c vs rss) (c3 : c ≤ 3) (h40 : vs.length ≤ 40) : eMake "Table" 2 [] f_Table_init (aCons a (aCons b aNil)) ρ = .ret (tabD c rss) := by
  have t := table_val hv h c3 h40
  simp only [eMake, aCons, aNil, ha, hb, T.bind, List.length_cons, List.length_nil, BEq.rfl, cond, List.append_nil, t]
  rfl
theorem initX_eq : mx_Table_init = iChkX (eCallX 1 fx_need_columns (aCons (eVar 1) aNil)) (iIfX (tX arT) (sRaise "InvalidRows" ["value"] (aCons (eVar 2) aNil)) (iX fldsE)) := by
  unfold mx_Table_init arT arF fldsE rowsE
  rfl
theorem columnsX_val (c : Nat) (hc : c ≤ 3) : fx_need_columns [.int (c : Int)] = .ret (.ok .non) := by
  have : c = 0 ∨ c = 1 ∨ c = 2 ∨ c = 3 := by omega
  rcases this with rfl | rfl | rfl | rfl <;> exact rfl
@[irreducible] def txF : List D → T (Res (List (Str × D))) := fx_Table_init
theorem tableX_ok {c : Nat} {v : D} (h : Fn v) (h3 : c ≤ 3) (r : isRows c v = true) : ∃ fs, txF [.int (c : Int), v] = .ret (.ok fs) := by
  obtain ⟨rss, R, S, L⟩ := h.tab r
  have ar := arT_is (c := c) h
  rw [r] at ar
  refine ⟨tabF c rss, ?_⟩
  unfold txF
  show mx_Table_init [.un, .val (.int (c : Int)), .val v, .un, .un] [] = _
  rw [initX_eq]
  simp only [iChkX, iIfX, iX, tX, T.ok, T.bindX, eCallX, aCons, aNil, eVar, List.length_cons, List.length_nil, List.getElem?_cons_succ, List.getElem?_cons_zero, T.bind, BEq.rfl, cond, columnsX_val c h3, ar, Bool.not_true, flds_val S R h3 L]
theorem tableX_ex {c : Nat} {v : D} (h : Fn v) (h3 : c ≤ 3) (r : isRows c v = false) : txF [.int (c : Int), v] = .ret (.ex "InvalidRows" [("value", v)]) := by
  have ar := arT_is (c := c) h
  rw [r] at ar
  unfold txF
  show mx_Table_init [.un, .val (.int (c : Int)), .val v, .un, .un] [] = _
  rw [initX_eq]
  simp only [iChkX, iIfX, iX, tX, T.ok, T.bindX, eCallX, aCons, aNil, eVar, List.length_cons, List.length_nil, List.getElem?_cons_succ, List.getElem?_cons_zero, T.bind, BEq.rfl, cond, columnsX_val c h3, ar, Bool.not_false, sRaise]
  rfl
@[irreducible] def hrMake : Rho → T (Res Out) := sExprX (eMakeKX "Table" 2 [1, 0] txF (aCons (eVar 1) (aCons (eVar 0) aNil)))
@[irreducible] def hrCls : List (Str × D) → Rho → T Out := cSet 2 (cLst (cCons (cEx (eC (.str "rows"))) (cCons (cCa (bReprR rRat) (cFld "value")) cNil)))
@[irreducible] def hrTry : Rho → T Out := sTry exAll hrMake [("InvalidRows", some 3, hrCls)]
theorem heard_eq : m__law_heard = bSeq (sOwn 2 (lLst (aCons (eC (.str "let")) aNil))) (bSeq hrTry (bFreeze 2 (sRet (eVar 2)))) := by
  unfold m__law_heard hrTry hrMake hrCls txF
  rfl
theorem vFld (v : D) : fieldD "value" [("value", v)] = some v := rfl
theorem exs : exAll.contains ("InvalidRows" : Str) = true := by decide +kernel
theorem exb : (("InvalidRows" : Str) == "InvalidRows") = true := by decide +kernel
theorem pick10 (a b : D) : pickD [1, 0] [a, b] = [b, a] := rfl
section
variable {c : Nat} {v : D} {s : Str} {ds : List D}
abbrev hrR (c : Nat) (v : D) (x : Ent) : Rho := [.val (.int (c : Int)), .val v, x, .un]
theorem hrMake_ok (h : Fn v) (h3 : c ≤ 3) (r : isRows c v = true) (x : Ent) : hrMake (hrR c v x) = .ret (.ok (.nx (hrR c v x))) := by
  obtain ⟨fs, e⟩ := tableX_ok h h3 r
  unfold hrMake
  simp only [sExprX, eMakeKX, T.bindX, aCons, aNil, eVar, List.length_cons, List.length_nil, List.getElem?_cons_succ, List.getElem?_cons_zero, T.bind, BEq.rfl, cond, pick10, e]
theorem hrMake_ex (h : Fn v) (h3 : c ≤ 3) (r : isRows c v = false) (x : Ent) : hrMake (hrR c v x) = .ret (.ex "InvalidRows" [("value", v)]) := by
  have e := tableX_ex h h3 r
  unfold hrMake
  simp only [sExprX, eMakeKX, T.bindX, aCons, aNil, eVar, List.length_cons, List.length_nil, List.getElem?_cons_succ, List.getElem?_cons_zero, T.bind, BEq.rfl, cond, pick10, e]
theorem hrCls_val (hs : bReprR rRat [v] = .ret (.str s)) (x : Ent) : hrCls [("value", v)] (hrR c v x) = .ret (.nx (hrR c v (.val (.lst [.str "rows", .str s])))) := by
  unfold hrCls
  simp only [cSet, cLst, cCons, cNil, cEx, eC, cCa, cFld, vFld, optT, T.bind, hs, small2, cond]
  rfl
theorem hrTry_ok (h : Fn v) (h3 : c ≤ 3) (r : isRows c v = true) (x : Ent) : hrTry (hrR c v x) = .ret (.nx (hrR c v x)) := by
  unfold hrTry sTry
  rw [hrMake_ok h h3 r]
  rfl
theorem hrTry_ex (h : Fn v) (h3 : c ≤ 3) (r : isRows c v = false) (hs : bReprR rRat [v] = .ret (.str s)) (x : Ent) : hrTry (hrR c v x) = .ret (.nx (hrR c v (.val (.lst [.str "rows", .str s])))) := by
  have l : decide (3 < (hrR c v x).length) = true := rfl
  have z : (hrR c v x).set 3 Ent.un = hrR c v x := rfl
  unfold hrTry sTry
  rw [hrMake_ex h h3 r]
  simp only [T.bind, exs, cond, catchT, exb, l, z, hrCls_val hs]
  rfl
theorem heard_ok (h : Fn v) (h3 : c ≤ 3) (r : isRows c v = true) : f__law_heard [.int (c : Int), v] = .ret (.lst [.str "let"]) := by
  have o : sOwn 2 (lLst (aCons (eC (.str "let")) aNil)) (hrR c v .un) = .ret (.nx (hrR c v (.own [.str "let"]))) := v_own rfl
  refine v_run (ρ := hrR c v .un) rfl ?_
  rw [heard_eq]
  exact v_nx o (v_nx (hrTry_ok h h3 r _) rfl)
theorem heard_ex (h : Fn v) (h3 : c ≤ 3) (r : isRows c v = false) (hs : bReprR rRat [v] = .ret (.str s)) : f__law_heard [.int (c : Int), v] = .ret (.lst [.str "rows", .str s]) := by
  have o : sOwn 2 (lLst (aCons (eC (.str "let")) aNil)) (hrR c v .un) = .ret (.nx (hrR c v (.own [.str "let"]))) := v_own rfl
  refine v_run (ρ := hrR c v .un) rfl ?_
  rw [heard_eq]
  exact v_nx o (v_nx (hrTry_ex h h3 r hs _) rfl)
end
end Pd
namespace Pd
open PySem L2 PySem.Spec PyProof.Rows
@[irreducible] def lnF : List D → T D := f__law_is_number
@[irreducible] def lrT : Rho → T Bool := tOr' (tNot' (eTest (eUn (isD2 ["Ratio", "Table"] .list .tuple) (eVar 2)))) (tOr' (eTest (eBin opNeF (eCa bLen (aCons (eVar 2) aNil)) (eVar 0))) (tNot' (eTest (eCa bAll (aCons (eL (lComp [3] (iSq 2) (gNm 3) yesT (eCall 1 lnF (aCons (eVar 3) aNil)))) aNil)))))
@[irreducible] def lrH : Rho → T Bool := tOr' (tNot' (eTest (eUn (isD2 ["Ratio", "Table"] .list .tuple) (eVar 1)))) (eTest (eBin opGt (eCa bLen (aCons (eVar 1) aNil)) (eC (.int 40))))
theorem lawrows_eq : m__law_are_rows = bSeq (sIf lrH (sRet (eC (.bl false))) bNil) (bSeq (sFor (iSq 1) (gNm 2) (sIf lrT (sRet (eC (.bl false))) bNil)) (sRet (eC (.bl true)))) := by
  unfold m__law_are_rows lrH lrT lnF
  rfl
section
variable {c : Nat} {v d : D} {x : Ent}
theorem ln_is (h : Fn d) : lnF [d] = .ret (.bl (isN d)) := by
  unfold lnF
  exact lawnum_is h
theorem lrT_is {x : Ent} (h : Fn d) : lrT [.val (.int (c : Int)), x, .val d, .un] = .ret (!isRow c d) := by
  have a1 : tNot' (eTest (eUn (isD2 ["Ratio", "Table"] .list .tuple) (eVar 2))) [.val (.int (c : Int)), x, .val d, .un] = .ret (!isSeq d) := v_not (v_test (v_un (x := d) rfl (isD2_is h)))
  have a2 : (!isSeq d) = false → tOr' (eTest (eBin opNeF (eCa bLen (aCons (eVar 2) aNil)) (eVar 0))) (tNot' (eTest (eCa bAll (aCons (eL (lComp [3] (iSq 2) (gNm 3) yesT (eCall 1 lnF (aCons (eVar 3) aNil)))) aNil)))) [.val (.int (c : Int)), x, .val d, .un] = .ret ((!decide ((els d).length = c)) || !(els d).all isN) := fun hs => by
    have hs : isSeq d = true := by simpa using hs
    refine v_tor' (v_test (v_bin (y := .int (c : Int)) (v_ca (x := d) rfl (len_seq hs)) rfl ?_)) fun _ => v_not (v_test ?_)
    · rw [neI', natI]
    · exact all_is ((seq_lst hs).sq rfl) (by have := h.els.1; omega) fun y hy => v_call1 (x := y) rfl (ln_is (h.els.2 y hy))
  have t := v_tor' a1 a2
  unfold lrT
  rw [t]
  unfold isRow
  simp
theorem lr_for : ∀ {ds : List D} {x y : Ent}, (∀ d ∈ ds, Fn d) → ∃ z, forT (fun d ρ => (gNm 2 d ρ).bind (sIf lrT (sRet (eC (.bl false))) bNil)) ds [.val (.int (c : Int)), x, y, .un] = .ret (if ds.all (isRow c) then .nx [.val (.int (c : Int)), x, z, .un] else .rt (.bl false))
  | [], x, y, _ => ⟨y, rfl⟩
  | d :: ds, x, y, h => by
    have t := lrT_is (c := c) (x := x) (h d List.mem_cons_self)
    have g : gNm 2 d [.val (.int (c : Int)), x, y, .un] = .ret [.val (.int (c : Int)), x, .val d, .un] := rfl
    cases r : isRow c d with
    | false =>
      rw [r] at t
      refine ⟨y, ?_⟩
      rw [List.all_cons, r]
      unfold forT
      simp only [g, T.bind, sIf, t, Bool.not_false, cond]
      rfl
    | true =>
      rw [r] at t
      obtain ⟨z, e⟩ := lr_for (x := x) (y := .val d) fun q hq => h q (List.mem_cons_of_mem _ hq)
      refine ⟨z, ?_⟩
      rw [List.all_cons, r, Bool.true_and]
      unfold forT
      simp only [g, T.bind, sIf, t, Bool.not_true, cond]
      exact e
theorem lrH_is (h : Fn v) : lrH [.val (.int (c : Int)), .val v, .un, .un] = .ret ((!isSeq v) || !decide ((els v).length ≤ 40)) := by
  unfold lrH
  refine v_tor' (v_not (v_test (v_un (x := v) rfl (isD2_is h)))) fun hs => ?_
  have hs : isSeq v = true := by simpa using hs
  refine v_test (v_bin (y := .int 40) (v_ca (x := v) rfl (len_seq hs)) rfl ?_)
  rw [gtI]
  congr 2
  rw [Bool.eq_iff_iff]
  simp
  omega
@[irreducible] def lrF : List D → T D := f__law_are_rows
theorem law_rows_is (h : Fn v) : lrF [.int (c : Int), v] = .ret (.bl (isRows c v)) := by
  unfold lrF
  refine v_run (ρ := [.val (.int (c : Int)), .val v, .un, .un]) rfl ?_
  rw [lawrows_eq]
  have t := lrH_is (c := c) h
  unfold isRows
  cases hs : isSeq v with
  | false =>
    rw [hs] at t
    exact v_ift t rfl
  | true =>
    rw [hs] at t
    cases h4 : decide ((els v).length ≤ 40) with
    | false =>
      rw [h4] at t
      exact v_ift t rfl
    | true =>
      rw [h4] at t
      refine v_iff t ?_
      obtain ⟨z, e⟩ := lr_for (c := c) (x := .val v) (y := .un) h.els.2
      have q : sFor (iSq 1) (gNm 2) (sIf lrT (sRet (eC (.bl false))) bNil) [.val (.int (c : Int)), .val v, .un, .un] = .ret (if (els v).all (isRow c) then .nx [.val (.int (c : Int)), .val v, z, .un] else .rt (.bl false)) := by
        unfold sFor
        rw [(seq_lst hs).sq rfl]
        exact e
      unfold bSeq
      rw [q]
      cases (els v).all (isRow c) <;> rfl
end
end Pd
namespace Pd
open PySem L2 PySem.Spec PyProof.Rows
theorem eqvs_two {F : D → D → Option Bool} {x y : D} {xs ys : List D} {b c : Bool} (h : D.eqv F x y = some b) (g : D.eqvs F xs ys = some c) : D.eqvs F (x :: xs) (y :: ys) = some (b && c) := by
  have e : D.eqvs F (x :: xs) (y :: ys) = (match D.eqv F x y with
      | none => none
      | some b => match D.eqvs F xs ys with
        | none => none
        | some c => some (b && c)) := by
    rw [D.eqvs] <;> rfl
  rw [e, h, g]
theorem eqvs_map {β : Type} [DecidableEq β] {F : D → D → Option Bool} {f : β → D} (h : ∀ a b, D.eqv F (f a) (f b) = some (decide (a = b))) : ∀ xs ys : List β, D.eqvs F (xs.map f) (ys.map f) = some (decide (xs = ys))
  | [], [] => by simp [D.eqvs]
  | [], _ :: _ => by simp [D.eqvs]
  | _ :: _, [] => by simp [D.eqvs]
  | a :: xs, b :: ys => by
    rw [List.map_cons, List.map_cons, eqvs_two (h a b) (eqvs_map h xs ys)]
    simp only [List.cons.injEq, Bool.decide_and]
/-- like ratios, decided -/
def DecR (F : D → D → Option Bool) : Prop := ∀ p q : Rat, F (qR p) (qR q) = some (decide (p = q))
theorem eqv_q {F : D → D → Option Bool} (h : DecR F) (p q : Rat) : D.eqv F (qR p) (qR q) = some (decide (p = q)) := h p q
theorem decR : DecR eRat := fun p q => by
  have e := eq_rat p q
  show (if (("Ratio" : Str) == "Ratio" && ("Ratio" : Str) == "Ratio") = true then (match f_Req [qR p, qR q] with
    | .ret (.bl true) => some true
    | .ret (.bl false) => if (flatF _ && flatF _ && !flatEq [("_top", .int p.num), ("_bottom", .int p.den)] [("_top", .int q.num), ("_bottom", .int q.den)]) = true then some false else none
    | _ => none) else none) = _
  rw [if_pos (by rw [sRR]; rfl), e]
  by_cases h : p = q
  · rw [decide_eq_true h]
  · rw [decide_eq_false h]
    have : flatEq [("_top", .int p.num), ("_bottom", .int p.den)] [("_top", .int q.num), ("_bottom", .int q.den)] = false := by
      cases c : flatEq [("_top", .int p.num), ("_bottom", .int p.den)] [("_top", .int q.num), ("_bottom", .int q.den)] with
      | false => rfl
      | true =>
        simp only [flatEq, Bool.and_eq_true, beq_iff_eq] at c
        exact absurd (Rat.ext c.1 (by omega)) h
    simp only [this]
    rfl
theorem hgts_q : ∀ l : List Rat, D.hgts (l.map qR) = 0
  | [] => rfl
  | q :: l => by
    show max (D.hgt (qR q)) (D.hgts (l.map qR)) = 0
    rw [hgts_q l]
    rfl
@[irreducible] def opNA : D → D → T D := opOr (opEqD true eAll) opNeF (fun x _ => isBig x)
@[irreducible] def opEA : D → D → T D := opOr (opEqD false eAll) opEqF (fun x _ => isBig x)
theorem opEA_int (i j : Int) : opEA (.int i) (.int j) = .ret (.bl (decide (i = j))) := by
  unfold opEA
  rfl
theorem eqv_row {F : D → D → Option Bool} (g : DecR F) (r q : List Rat) : D.eqv F (rowD r) (rowD q) = some (decide (r = q)) := by
  unfold rowD
  conv => lhs; unfold D.eqv
  exact eqvs_map (eqv_q g) r q
theorem hgt_rows : ∀ L : List (List Rat), D.hgts (L.map rowD) ≤ 1
  | [] => Nat.zero_le _
  | r :: L => by
    show max (D.hgts (r.map qR) + 1) (D.hgts (L.map rowD)) ≤ 1
    rw [hgts_q]
    exact Nat.max_le.mpr ⟨by decide, hgt_rows L⟩
theorem eqD_rows {F : D → D → Option Bool} (g : DecR F) (n : Bool) (L M : List (List Rat)) : opEqD n F (.lst (L.map rowD)) (.lst (M.map rowD)) = .ret (.bl (n ^^ decide (L = M))) := by
  have b : (isBig (.lst (L.map rowD)) && decide (D.hgt (.lst (L.map rowD)) ≤ 6)) = true := by
    show (true && decide (D.hgts (L.map rowD) + 1 ≤ 6)) = true
    have := hgt_rows L
    rw [Bool.true_and, decide_eq_true_iff]
    omega
  have e : D.eqv F (.lst (L.map rowD)) (.lst (M.map rowD)) = some (decide (L = M)) := by
    conv => lhs; unfold D.eqv
    exact eqvs_map (eqv_row g) L M
  unfold opEqD
  rw [b, e]
  rfl
@[irreducible] def teF : List D → T D := f_Table_eq
section
variable {c c2 : Nat} {rss qss : List (List Rat)}
theorem isTb (c : Nat) (rss : List (List Rat)) : isOC ["Ratio", "Table"] "Table" (tabD c rss) = .ret (.bl true) := by
  unfold tabD isOC
  simp only [sTab]
  rfl
theorem opER_int' (i j : Int) : opER (.int i) (.int j) = .ret (.bl (decide (i = j))) := by
  unfold opER
  rfl
theorem opER_rows (L M : List (List Rat)) : opER (.lst (L.map rowD)) (.lst (M.map rowD)) = .ret (.bl (decide (L = M))) := by
  unfold opER
  show opEqD false eRat (.lst (L.map rowD)) (.lst (M.map rowD)) = _
  rw [eqD_rows decR, Bool.false_xor]
theorem teq_eq : m_Table_eq = sRet (eAnd (eUn (isOC ["Ratio", "Table"] "Table") (eVar 1)) (eAnd (eBin opER (eUn (attrD "Table" "_columns") (eVar 0)) (eUn (attrD "Table" "_columns") (eVar 1))) (eBin opER (eUn (attrD "Table" "_rows") (eVar 0)) (eUn (attrD "Table" "_rows") (eVar 1))))) := by
  unfold m_Table_eq opER
  rfl
theorem te_val : teF [tabD c rss, tabD c2 qss] = .ret (.bl (decide (c = c2) && decide (rss = qss))) := by
  unfold teF
  refine v_run (ρ := [.val (tabD c rss), .val (tabD c2 qss)]) rfl ?_
  rw [teq_eq]
  refine v_ret (v_and (v_un (x := tabD c2 qss) rfl (isTb c2 qss)) ?_)
  have a : eBin opER (eUn (attrD "Table" "_columns") (eVar 0)) (eUn (attrD "Table" "_columns") (eVar 1)) [.val (tabD c rss), .val (tabD c2 qss)] = .ret (.bl (decide (c = c2))) := v_bin (v_un (x := tabD c rss) rfl (cols_attr c rss)) (v_un (x := tabD c2 qss) rfl (cols_attr c2 qss)) (by rw [opER_int', natI])
  cases h : decide (c = c2) with
  | false =>
    rw [h] at a
    exact v_and_f a
  | true =>
    rw [h] at a
    exact v_and a (v_bin (v_un (x := tabD c rss) rfl (rows_attr c rss)) (v_un (x := tabD c2 qss) rfl (rows_attr c2 qss)) (opER_rows rss qss))
theorem nTR : ("Table" == ("Ratio" : Str)) = false := by decide +kernel
theorem sameTab : eAll (tabD c rss) (tabD c rss) = some true := by
  have e := te_val (c := c) (c2 := c) (rss := rss) (qss := rss)
  rw [decide_eq_true rfl, decide_eq_true rfl] at e
  unfold teF at e
  have n : eCls "Ratio" f_Req (tabD c rss) (tabD c rss) = none := by
    unfold eCls tabD
    simp only [nTR]
    rfl
  have y : eCls "Table" f_Table_eq (tabD c rss) (tabD c rss) = some true := by
    unfold tabD at e
    unfold eCls tabD
    simp only [sTab, e]
    rfl
  show eOr2 (eCls "Ratio" f_Req) (eCls "Table" f_Table_eq) (tabD c rss) (tabD c rss) = _
  unfold eOr2
  rw [n, y]
theorem hgt_tab : D.hgt (tabD c rss) ≤ 6 := by
  first
    | exact Nat.zero_le _
    | (have := hgt_rows rss
       show max _ _ + 1 ≤ 6
       omega)
theorem opEA_tab : opEA (tabD c rss) (tabD c rss) = .ret (.bl true) := by
  have b : (isBig (tabD c rss) && decide (D.hgt (tabD c rss) ≤ 6)) = true := by
    rw [decide_eq_true hgt_tab]
    rfl
  unfold opEA
  show opEqD false eAll (tabD c rss) (tabD c rss) = _
  unfold opEqD
  rw [b, show D.eqv eAll (tabD c rss) (tabD c rss) = some true from sameTab]
  rfl
@[irreducible] def cmT : D → D → T D := cmpAny "Table" opEqF teF
@[irreducible] def cmL : D → D → T D := cmpLst "Table" teF
theorem cmT_val : cmT (tabD c rss) (tabD c2 qss) = .ret (.bl (decide (c = c2) && decide (rss = qss))) := by
  unfold cmT
  have e := te_val (c := c) (c2 := c2) (rss := rss) (qss := qss)
  have r2 : right2 "Table" teF (tabD c rss) (tabD c2 qss) = teF [tabD c rss, tabD c2 qss] := by
    have i := isC_tab c2 qss
    unfold tabD at i ⊢
    unfold right2
    simp only [i, T.bind]
  have i := isC_tab c rss
  rw [← r2] at e
  unfold tabD at e i ⊢
  unfold cmpAny opOwn
  simp only [i, T.bind, e]
theorem lst_no (vs : List D) : isOC ["Ratio", "Table"] "Table" (.lst vs) = .ret (.bl false) := rfl
theorem cmL_val (vs : List D) : cmL (tabD c rss) (.lst vs) = .ret (.bl false) := by
  have e : teF [tabD c rss, .lst vs] = .ret (.bl false) := by
    unfold teF
    refine v_run (ρ := [.val (tabD c rss), .val (.lst vs)]) rfl ?_
    rw [teq_eq]
    exact v_ret (v_and_f (v_un (x := .lst vs) rfl (lst_no vs)))
  unfold cmL cmpLst
  simp only [isC_tab, T.bind, e]
end
theorem eqv_str (F : D → D → Option Bool) (x y : Str) : D.eqv F (.str x) (.str y) = some (decide (x = y)) := by
  unfold D.eqv
  congr 1
def sD (l : List Str) : D := .lst (l.map D.str)
theorem opNA_strs (l m : List Str) : opNA (sD l) (sD m) = .ret (.bl (!decide (l = m))) := by
  have h : ∀ l : List Str, D.hgts (l.map D.str) = 0 := fun l => by
    induction l with
    | nil => rfl
    | cons x l ih =>
      show max 0 (D.hgts (l.map D.str)) = 0
      rw [ih]
      rfl
  have b : (isBig (sD l) && decide (D.hgt (sD l) ≤ 6)) = true := by
    show (true && decide (D.hgts (l.map D.str) + 1 ≤ 6)) = true
    rw [h]
    rfl
  have e : D.eqv eAll (sD l) (sD m) = some (decide (l = m)) := by
    unfold sD
    conv => lhs; unfold D.eqv
    exact eqvs_map (eqv_str eAll) l m
  unfold opNA
  show opEqD true eAll (sD l) (sD m) = _
  unfold opEqD
  rw [b, e, ← Bool.true_xor]
  rfl
theorem opNA_str (x y : Str) : opNA (.str x) (.str y) = .ret (.bl (!decide (x = y))) := by
  unfold opNA
  rfl
end Pd
namespace Pd
open PySem L2 PySem.Spec PyProof.Rows
theorem count_is (i : Int) : f_is_count [.int i] = .ret (.bl (decide (0 ≤ i))) := by
  refine v_run (ρ := [.val (.int i)]) rfl (v_ret (v_and (v_call1 (x := .int i) rfl (isInt_int i)) (v_bin (x := .int i) (y := .int 0) rfl rfl ?_)))
  rfl
theorem count_to_is (i j : Int) : f_is_count_to [.int i, .int j] = .ret (.bl (decide (0 ≤ i) && decide (i ≤ j))) := by
  refine v_run (ρ := [.val (.int i), .val (.int j)]) rfl (v_ret ?_)
  have a : eCall 1 f_is_count (aCons (eVar 0) aNil) [.val (.int i), .val (.int j)] = .ret (.bl (decide (0 ≤ i))) := v_call1 (x := .int i) rfl (count_is i)
  cases h : decide (0 ≤ i) with
  | false =>
    rw [h] at a
    exact v_and_f a
  | true =>
    rw [h] at a
    exact v_and a (v_bin (x := .int i) (y := .int j) rfl rfl (leI i j))
theorem position_ok {i j : Int} (h0 : 0 ≤ i) (h : i ≤ j) : f_need_position [.int i, .int j] = .ret .non := by
  have e := count_to_is i j
  rw [decide_eq_true h0, decide_eq_true h] at e
  have t : tNot' (eTest (eCall 2 f_is_count_to (aCons (eVar 0) (aCons (eVar 1) aNil)))) [.val (.int i), .val (.int j)] = .ret false := v_not (p := true) (v_test (v_call2 (x := .int i) (y := .int j) rfl rfl e))
  refine v_run0 (ρ := [.val (.int i), .val (.int j)]) (ρ' := [.val (.int i), .val (.int j)]) rfl ?_
  unfold m_need_position sIf
  rw [t]
  rfl
theorem need_row_ok {c : Nat} {v : D} {ds : List D} {rs : List Rat} (hv : SeqOf v ds) (h : NumL ds rs) (hc : ds.length = c) (h3 : c ≤ 3) : f_need_row [.int (c : Int), v] = .ret .non := by
  have t : tNot' (eTest (eCall 2 f_are_numbers (aCons (eVar 1) (aCons (eVar 0) aNil)))) [.val (.int (c : Int)), .val v] = .ret false := v_not (p := true) (v_test (v_call2 (x := v) (y := .int (c : Int)) rfl rfl (are_numbers_val hv h hc h3)))
  refine v_run0 (ρ := [.val (.int (c : Int)), .val v]) (ρ' := [.val (.int (c : Int)), .val v]) rfl ?_
  unfold m_need_row sIf
  rw [t]
  rfl
theorem cut_both {xs : List D} {i j : Nat} (hij : i ≤ j) (h : j ≤ xs.length) : cutD xs (some (i : Int)) (some (j : Int)) = (xs.drop i).take (j - i) := by
  unfold cutD
  rw [HT.sIx_nat, HT.sIx_nat, Nat.min_eq_left h, Nat.min_eq_left (Nat.le_trans hij h)]
section
variable {c : Nat} {rss qss : List (List Rat)} {ρ : Rho} {i j k : Nat}
abbrev nE (i : Nat) : Ent := .val (.int (i : Int))
abbrev tE (c : Nat) (rss : List (List Rat)) : Ent := .val (tabD c rss)
/-- a table of the kind that is drawn -/
structure TbOk (c : Nat) (rss : List (List Rat)) : Prop where
  c3 : c ≤ 3
  l40 : rss.length ≤ 40
  w : ∀ rs ∈ rss, rs.length = c
theorem TbOk.sub (h : TbOk c rss) {qss : List (List Rat)} (l : qss.length ≤ 40) (m : ∀ q ∈ qss, q ∈ rss) : TbOk c qss := ⟨h.c3, l, fun q hq => h.w q (m q hq)⟩
theorem TbOk.app (h : TbOk c rss) (g : TbOk c qss) (l : rss.length + qss.length ≤ 40) : TbOk c (rss ++ qss) := ⟨h.c3, by simp; exact l, fun q hq => by
  rcases List.mem_append.mp hq with a | a
  · exact h.w q a
  · exact g.w q a⟩
theorem TbOk.take (h : TbOk c rss) (n : Nat) : TbOk c (rss.take n) := h.sub (by simp; have := h.l40; omega) fun q hq => List.mem_of_mem_take hq
theorem TbOk.drop (h : TbOk c rss) (n : Nat) : TbOk c (rss.drop n) := h.sub (by simp; have := h.l40; omega) fun q hq => List.mem_of_mem_drop hq
theorem TbOk.rev (h : TbOk c rss) : TbOk c rss.reverse := h.sub (by simp; exact h.l40) fun q hq => List.mem_reverse.mp hq
theorem TbOk.rows (h : TbOk c rss) : RowsL c (rss.map rowD) rss := rowsL_of h.w
theorem mkT {a b : Rho → T D} (h : TbOk c rss) (ha : a ρ = .ret (.int (c : Int))) (hb : b ρ = .ret (.lst (rss.map rowD))) : eMake "Table" 2 [] f_Table_init (aCons a (aCons b aNil)) ρ = .ret (tabD c rss) := makeT ha hb (.inl rfl) h.rows h.c3 (by simp; exact h.l40)
theorem p_cols {m : Rho → T D} (hm : m ρ = .ret (tabD c rss)) : eProp "Table" f_Table_columns m ρ = .ret (.int (c : Int)) := by
  unfold eProp
  simp only [hm, T.bind, isC_tab, columns_of]
theorem p_height {m : Rho → T D} (hm : m ρ = .ret (tabD c rss)) : eProp "Table" f_Table_height m ρ = .ret (.int (rss.length : Int)) := by
  unfold eProp
  simp only [hm, T.bind, isC_tab, height_of]
theorem TbOk.rowsOf (h : TbOk c rss) : f_Table_rows [tabD c rss] = .ret (rss.map rowD) := rows_of h.l40 fun rs hrs => by rw [h.w rs hrs]; exact h.c3
@[irreducible] def arwF : List D → T D := asD f_Table_rows
theorem m_rows {m : Rho → T D} (h : TbOk c rss) (hm : m ρ = .ret (tabD c rss)) : eMeth "Table" "rows" 0 arwF m aNil ρ = .ret (.lst (rss.map rowD)) := by
  have e : arwF [tabD c rss] = .ret (.lst (rss.map rowD)) := by
    unfold arwF asD
    rw [h.rowsOf]
    rfl
  simp only [eMeth, hm, T.bind, insD_tab, aNil, List.length_nil, BEq.rfl, cond, e]
theorem l_rows {m : Rho → T D} (h : TbOk c rss) (hm : m ρ = .ret (tabD c rss)) : lMeth "Table" "rows" f_Table_rows m ρ = .ret (rss.map rowD) := by
  simp only [lMeth, hm, T.bind, insD_tab, h.rowsOf]
theorem add_lst {xs ys : List D} (l : xs.length + ys.length ≤ 100000) : opAdd (.lst xs) (.lst ys) = .ret (.lst (xs ++ ys)) := by
  have s : small (xs ++ ys) = true := small_of (by simp; omega)
  unfold opAdd
  simp only [s, cond]
theorem v_add {a b : Rho → T D} {xs ys : List D} (ha : a ρ = .ret (.lst xs)) (hb : b ρ = .ret (.lst ys)) (l : xs.length + ys.length ≤ 100000) : eBin opAdd a b ρ = .ret (.lst (xs ++ ys)) := v_bin ha hb (add_lst l)
theorem joined_eq : m_joined = bSeq (sExpr (eCall 1 f_need_table (aCons (eVar 0) aNil))) (bSeq (sExpr (eCall 1 f_need_table (aCons (eVar 1) aNil))) (bSeq (sExpr (eCall 2 f_need_like_columns (aCons (eVar 0) (aCons (eVar 1) aNil)))) (bSeq (sExpr (eCall 1 f_need_place_for_rows (aCons (eBin opAdd (eProp "Table" f_Table_height (eVar 0)) (eProp "Table" f_Table_height (eVar 1))) aNil))) (sRet (eMake "Table" 2 [] f_Table_init (aCons (eProp "Table" f_Table_columns (eVar 0)) (aCons (eBin opAdd (eMeth "Table" "rows" 0 arwF (eVar 0) aNil) (eMeth "Table" "rows" 0 arwF (eVar 1) aNil)) aNil))))))) := by
  unfold m_joined arwF
  rfl
theorem like_val : f_need_like_columns [tabD c rss, tabD c qss] = .ret .non := by
  refine v_run0 (ρ := [tE c rss, tE c qss]) (ρ' := [tE c rss, tE c qss]) rfl ?_
  have t : eTest (eBin opNeF (eProp "Table" f_Table_columns (eVar 0)) (eProp "Table" f_Table_columns (eVar 1))) [tE c rss, tE c qss] = .ret false := v_test (v_bin (p_cols (c := c) (rss := rss) rfl) (p_cols (c := c) (rss := qss) rfl) (by rw [neI']; simp))
  unfold m_need_like_columns sIf
  rw [t]
  rfl
theorem joined_val (h : TbOk c rss) (g : TbOk c qss) (l : rss.length + qss.length ≤ 40) : joF [tabD c rss, tabD c qss] = .ret (tabD c (rss ++ qss)) := by
  unfold joF
  refine v_run (ρ := [tE c rss, tE c qss]) rfl ?_
  rw [joined_eq]
  refine v_ex (v_call1 (x := tabD c rss) rfl (need_table_val c rss)) (v_ex (v_call1 (x := tabD c qss) rfl (need_table_val c qss)) (v_ex (v_call2 (x := tabD c rss) (y := tabD c qss) rfl rfl like_val) (v_ex (x := .non) (v_call1 (x := .int ((rss.length + qss.length : Nat) : Int)) ?_ (place_val l)) (v_ret (mkT (h.app g l) (p_cols (rss := rss) rfl) ?_)))))
  · exact v_bin (p_height (c := c) (rss := rss) rfl) (p_height (c := c) (rss := qss) rfl) (by rw [Int.natCast_add]; rfl)
  · rw [List.map_append]
    exact v_add (m_rows h rfl) (m_rows g rfl) (by simp; omega)
theorem turned_eq : m_turned = bSeq (sExpr (eCall 1 f_need_table (aCons (eVar 0) aNil))) (sRet (eMake "Table" 2 [] f_Table_init (aCons (eProp "Table" f_Table_columns (eVar 0)) (aCons (eL (lRev (eMeth "Table" "rows" 0 arwF (eVar 0) aNil))) aNil)))) := by
  unfold m_turned arwF
  rfl
theorem turned_val (h : TbOk c rss) : tuF [tabD c rss] = .ret (tabD c rss.reverse) := by
  unfold tuF
  refine v_run (ρ := [tE c rss]) rfl ?_
  rw [turned_eq]
  refine v_ex (v_call1 (x := tabD c rss) rfl (need_table_val c rss)) (v_ret (mkT h.rev (p_cols (rss := rss) rfl) ?_))
  rw [List.map_reverse]
  exact v_L (rev_val (m_rows h rfl))
@[irreducible] def pcF : List D → T D := f_piece
theorem piece_eq : m_piece = bSeq (sExpr (eCall 1 f_need_table (aCons (eVar 0) aNil))) (bSeq (sIf (tNot' (eTest (eCall 2 f_is_count_to (aCons (eVar 1) (aCons (eProp "Table" f_Table_height (eVar 0)) aNil))))) sFail bNil) (bSeq (sIf (tOr' (tNot' (eTest (eCall 1 f_is_count (aCons (eVar 2) aNil)))) (tOr' (eTest (eBin opLt (eVar 2) (eVar 1))) (eTest (eBin opGt (eVar 2) (eProp "Table" f_Table_height (eVar 0)))))) sFail bNil) (sRet (eMake "Table" 2 [] f_Table_init (aCons (eProp "Table" f_Table_columns (eVar 0)) (aCons (eSl (eMeth "Table" "rows" 0 arwF (eVar 0) aNil) (oPart (eVar 1)) (oPart (eVar 2))) aNil)))))) := by
  unfold m_piece arwF
  rfl
theorem ltI (i j : Int) : opLt (.int i) (.int j) = .ret (.bl (decide (i < j))) := rfl
abbrev mid (i j : Nat) (rss : List (List Rat)) : List (List Rat) := (rss.drop i).take (j - i)
theorem sl_val {a : Rho → T D} {lo hi : Rho → T (Option Int)} {o p : Option Int} {xs : List D} (ha : a ρ = .ret (.lst xs)) (hl : lo ρ = .ret o) (hh : hi ρ = .ret p) : eSl a lo hi ρ = .ret (.lst (cutD xs o p)) := by
  unfold eSl
  rw [ha, T.bind, hl, T.bind, hh]
  rfl
theorem part_val {m : Rho → T D} {i : Int} (h : m ρ = .ret (.int i)) : oPart m ρ = .ret (some i) := by
  unfold oPart
  rw [h]
  rfl
theorem piece_val (h : TbOk c rss) (hij : i ≤ j) (hj : j ≤ rss.length) : pcF [tabD c rss, .int (i : Int), .int (j : Int)] = .ret (tabD c (mid i j rss)) := by
  unfold pcF
  refine v_run (ρ := [tE c rss, nE i, nE j]) rfl ?_
  rw [piece_eq]
  have l := h.l40
  refine v_ex (v_call1 (x := tabD c rss) rfl (need_table_val c rss)) (v_iff (v_not (p := true) (v_test (v_call2 (x := .int (i : Int)) (y := .int (rss.length : Int)) rfl (p_height (c := c) rfl) ?_))) (v_iff (v_or (v_not (p := true) (v_test (v_call1 (x := .int (j : Int)) rfl ?_))) (v_or (v_test (v_bin (x := .int (j : Int)) (y := .int (i : Int)) rfl rfl ?_)) (v_test (v_bin (x := .int (j : Int)) (y := .int (rss.length : Int)) rfl (p_height (c := c) rfl) ?_)))) (v_ret (mkT ((h.drop i).take (j - i)) (p_cols (rss := rss) rfl) ?_))))
  · rw [count_to_is, decide_eq_true (by omega), decide_eq_true (by omega)]
    rfl
  · rw [count_is, decide_eq_true (by omega)]
  · rw [ltI, decide_eq_false (by omega)]
  · rw [gtI, decide_eq_false (by omega)]
  · have e := sl_val (ρ := [tE c rss, nE i, nE j]) (lo := oPart (eVar 1)) (hi := oPart (eVar 2)) (m_rows h (m := eVar 0) rfl) (part_val (i := i) rfl) (part_val (i := j) rfl)
    rw [e, cut_both hij (by simp; exact hj), ← List.map_drop, ← List.map_take]
@[irreducible] def wrF : List D → T D := f_with_row
theorem with_eq : m_with_row = bSeq (sExpr (eCall 1 f_need_table (aCons (eVar 0) aNil))) (bSeq (sExpr (eCall 2 f_need_position (aCons (eVar 1) (aCons (eProp "Table" f_Table_height (eVar 0)) aNil)))) (bSeq (sExpr (eCall 2 f_need_row (aCons (eProp "Table" f_Table_columns (eVar 0)) (aCons (eVar 2) aNil)))) (bSeq (sExpr (eCall 1 f_need_place_for_rows (aCons (eBin opAdd (eProp "Table" f_Table_height (eVar 0)) (eC (.int 1))) aNil))) (bSeq (sOwn 3 (lMeth "Table" "rows" f_Table_rows (eVar 0))) (bSeq (sIns 3 (eVar 1) (eVar 2)) (bFreeze 3 (sRet (eMake "Table" 2 [] f_Table_init (aCons (eProp "Table" f_Table_columns (eVar 0)) (aCons (eVar 3) aNil)))))))))) := by
  unfold m_with_row
  rfl
theorem RowsL.ins {v : D} {ds : List D} {rs : List Rat} (h : TbOk c rss) (hv : SeqOf v ds) (hn : NumL ds rs) (hc : ds.length = c) (i : Nat) : RowsL c ((rss.map rowD).take i ++ [v] ++ (rss.map rowD).drop i) (rss.take i ++ [rs] ++ rss.drop i) := by
  rw [← List.map_take, ← List.map_drop]
  exact ((h.take i).rows.app (.cons hv hn hc .nil)).app (h.drop i).rows
theorem with_val {v : D} {ds : List D} {rs : List Rat} (h : TbOk c rss) (hv : SeqOf v ds) (hn : NumL ds rs) (hc : ds.length = c) (hi : i ≤ rss.length) (l : rss.length + 1 ≤ 40) : wrF [tabD c rss, .int (i : Int), v] = .ret (tabD c (rss.take i ++ [rs] ++ rss.drop i)) := by
  unfold wrF
  refine v_run (ρ := [tE c rss, nE i, .val v, .un]) rfl ?_
  rw [with_eq]
  have e1 : sOwn 3 (lMeth "Table" "rows" f_Table_rows (eVar 0)) [tE c rss, nE i, .val v, .un] = .ret (.nx [tE c rss, nE i, .val v, .own (rss.map rowD)]) := v_own (l_rows h rfl)
  have e2 : sIns 3 (eVar 1) (eVar 2) [tE c rss, nE i, .val v, .own (rss.map rowD)] = .ret (.nx [tE c rss, nE i, .val v, .own ((rss.map rowD).take i ++ [v] ++ (rss.map rowD).drop i)]) := by
    have s : small (rss.map rowD) = true := small_of (by simp; omega)
    have d : (decide ((0 : Int) ≤ (i : Int)) && decide ((i : Int) ≤ 9000) && small (rss.map rowD)) = true := by
      rw [s, decide_eq_true (by omega), decide_eq_true (by omega)]
      rfl
    unfold sIns
    simp only [List.getElem?_cons_succ, List.getElem?_cons_zero, eVar, T.bind, d, cond, Int.toNat_natCast, List.set_cons_succ, List.set_cons_zero]
  have e3 : bFreeze 3 (sRet (eMake "Table" 2 [] f_Table_init (aCons (eProp "Table" f_Table_columns (eVar 0)) (aCons (eVar 3) aNil)))) [tE c rss, nE i, .val v, .own ((rss.map rowD).take i ++ [v] ++ (rss.map rowD).drop i)] = .ret (.rt (tabD c (rss.take i ++ [rs] ++ rss.drop i))) := by
    show sRet (eMake "Table" 2 [] f_Table_init (aCons (eProp "Table" f_Table_columns (eVar 0)) (aCons (eVar 3) aNil))) [tE c rss, nE i, .val v, .val (.lst ((rss.map rowD).take i ++ [v] ++ (rss.map rowD).drop i))] = _
    exact v_ret (makeT (p_cols (rss := rss) rfl) rfl (.inl rfl) (RowsL.ins h hv hn hc i) h.c3 (by simp; omega))
  refine v_ex (v_call1 (x := tabD c rss) rfl (need_table_val c rss)) (v_ex (v_call2 (x := .int (i : Int)) (y := .int (rss.length : Int)) rfl (p_height (c := c) rfl) (position_ok (by omega) (by omega))) (v_ex (v_call2 (x := .int (c : Int)) (y := v) (p_cols (rss := rss) rfl) rfl (need_row_ok hv hn hc h.c3)) (v_ex (x := .non) (v_call1 (x := .int ((rss.length + 1 : Nat) : Int)) ?_ (place_val l)) (v_nx e1 (v_nx e2 e3)))))
  exact v_bin (p_height (c := c) (rss := rss) rfl) (y := .int 1) rfl (by rw [Int.natCast_add]; rfl)
@[irreducible] def woF : List D → T D := f_without_row
theorem without_eq : m_without_row = bSeq (sExpr (eCall 1 f_need_table (aCons (eVar 0) aNil))) (bSeq (sExpr (eCall 2 f_need_position (aCons (eVar 1) (aCons (eBin opSub (eProp "Table" f_Table_height (eVar 0)) (eC (.int 1))) aNil)))) (bSeq (sOwn 2 (lMeth "Table" "rows" f_Table_rows (eVar 0))) (bSeq (sDel 2 (eVar 1)) (bFreeze 2 (sRet (eMake "Table" 2 [] f_Table_init (aCons (eProp "Table" f_Table_columns (eVar 0)) (aCons (eVar 2) aNil)))))))) := by
  unfold m_without_row
  rfl
theorem ixN_nat {n i : Nat} (h : i < n) : ixN n (i : Int) = some i := by
  unfold ixN
  simp
  omega
theorem without_val (h : TbOk c rss) (hi : i < rss.length) : woF [tabD c rss, .int (i : Int)] = .ret (tabD c (rss.take i ++ rss.drop (i + 1))) := by
  unfold woF
  refine v_run (ρ := [tE c rss, nE i, .un]) rfl ?_
  rw [without_eq]
  have l := h.l40
  have e1 : sOwn 2 (lMeth "Table" "rows" f_Table_rows (eVar 0)) [tE c rss, nE i, .un] = .ret (.nx [tE c rss, nE i, .own (rss.map rowD)]) := v_own (l_rows h rfl)
  have e2 : sDel 2 (eVar 1) [tE c rss, nE i, .own (rss.map rowD)] = .ret (.nx [tE c rss, nE i, .own ((rss.take i ++ rss.drop (i + 1)).map rowD)]) := by
    have s : small (rss.map rowD) = true := small_of (by simp; omega)
    have x : ixN (rss.map rowD).length (i : Int) = some i := ixN_nat (by simp; exact hi)
    have y : (rss.map rowD).eraseIdx i = (rss.take i ++ rss.drop (i + 1)).map rowD := by
      rw [List.eraseIdx_eq_take_drop_succ, List.map_append, List.map_take, List.map_drop]
    unfold sDel
    simp only [List.getElem?_cons_succ, List.getElem?_cons_zero, eVar, T.bind, s, cond, x, y, List.set_cons_succ, List.set_cons_zero]
  have ok : TbOk c (rss.take i ++ rss.drop (i + 1)) := (h.take i).app (h.drop (i + 1)) (by simp; omega)
  have e3 : bFreeze 2 (sRet (eMake "Table" 2 [] f_Table_init (aCons (eProp "Table" f_Table_columns (eVar 0)) (aCons (eVar 2) aNil)))) [tE c rss, nE i, .own ((rss.take i ++ rss.drop (i + 1)).map rowD)] = .ret (.rt (tabD c (rss.take i ++ rss.drop (i + 1)))) := by
    show sRet (eMake "Table" 2 [] f_Table_init (aCons (eProp "Table" f_Table_columns (eVar 0)) (aCons (eVar 2) aNil))) [tE c rss, nE i, .val (.lst ((rss.take i ++ rss.drop (i + 1)).map rowD))] = _
    exact v_ret (mkT ok (p_cols (rss := rss) rfl) rfl)
  exact v_ex (v_call1 (x := tabD c rss) rfl (need_table_val c rss)) (v_ex (x := .non) (v_call2 (x := .int (i : Int)) (y := .int ((rss.length : Int) - 1)) rfl (v_bin (p_height (c := c) (rss := rss) rfl) (y := .int 1) rfl rfl) (position_ok (by omega) (by omega))) (v_nx e1 (v_nx e2 e3)))
end
end Pd
namespace Pd
open PySem L2 PySem.Spec PyProof.Rows
section
variable {c : Nat} {rss qss : List (List Rat)} {ρ : Rho} {i j k : Nat}
def swp (i : Nat) (rss : List (List Rat)) : List (List Rat) := (rss.set i (rss.getD (i + 1) [])).set (i + 1) (rss.getD i [])
theorem swp_len : (swp i rss).length = rss.length := by
  unfold swp
  rw [List.length_set, List.length_set]
theorem swp_mem (h : i + 1 < rss.length) : ∀ q ∈ swp i rss, q ∈ rss := fun q hq => by
  unfold swp at hq
  have g : ∀ j, j < rss.length → rss.getD j [] ∈ rss := fun j hj => by
    rw [List.getD_eq_getElem?_getD, List.getElem?_eq_getElem hj]
    exact List.getElem_mem hj
  rcases List.mem_or_eq_of_mem_set hq with a | a
  · rcases List.mem_or_eq_of_mem_set a with b | b
    · exact b
    · subst b; exact g _ h
  · subst a; exact g _ (by omega)
theorem swp_cut (h : i + 1 < rss.length) : swp i rss = rss.take i ++ [rss.getD (i + 1) [], rss.getD i []] ++ rss.drop (i + 2) := by
  unfold swp
  refine List.ext_getElem? fun j => ?_
  rw [List.getElem?_set, List.getElem?_set, List.length_set, List.append_assoc]
  have lt : (rss.take i).length = i := by simp; omega
  by_cases a : i + 1 = j
  · subst a
    rw [if_pos rfl, if_pos h, List.getElem?_append_right (by omega), lt]
    simp
  · rw [if_neg a]
    by_cases b : i = j
    · subst b
      rw [if_pos rfl, if_pos (by omega), List.getElem?_append_right (by omega), lt]
      simp
    · rw [if_neg b]
      by_cases d : j < i
      · rw [List.getElem?_append_left (by omega), List.getElem?_take_of_lt d]
      · rw [List.getElem?_append_right (by omega), lt]
        obtain ⟨m, rfl⟩ : ∃ m, j = i + 2 + m := ⟨j - i - 2, by omega⟩
        rw [show i + 2 + m - i = m + 2 by omega]
        simp
theorem swp_get (j : Nat) (h : i + 1 < rss.length) : (swp i rss).getD j [] = if j = i + 1 then rss.getD i [] else if j = i then rss.getD (i + 1) [] else rss.getD j [] := by
  unfold swp
  rw [List.getD_eq_getElem?_getD, List.getElem?_set, List.getElem?_set, List.length_set]
  by_cases a : i + 1 = j
  · rw [if_pos a, if_pos h, if_pos a.symm]
    rfl
  · rw [if_neg a, if_neg (show ¬ j = i + 1 from fun e => a e.symm)]
    by_cases b : i = j
    · rw [if_pos b, if_pos (show i < rss.length by omega), if_pos b.symm]
      rfl
    · rw [if_neg b, if_neg (show ¬ j = i from fun e => b e.symm), List.getD_eq_getElem?_getD]
theorem swp_two (h : i + 1 < rss.length) : swp i (swp i rss) = rss := by
  have h2 : i + 1 < (swp i rss).length := by rw [swp_len]; exact h
  refine List.ext_getElem? fun j => ?_
  have e := swp_get (rss := swp i rss) (i := i) j h2
  by_cases hj : j < rss.length
  · have e3 : (swp i (swp i rss))[j]? = some ((swp i (swp i rss)).getD j []) := by
      rw [List.getD_eq_getElem?_getD, List.getElem?_eq_getElem (by rw [swp_len, swp_len]; exact hj)]
      rfl
    have e4 : rss[j]? = some (rss.getD j []) := by
      rw [List.getD_eq_getElem?_getD, List.getElem?_eq_getElem hj]
      rfl
    rw [e3, e4, e]
    congr 1
    rw [swp_get i h, swp_get (i + 1) h, swp_get j h]
    by_cases a : j = i + 1
    · subst a
      simp
    · by_cases b : j = i
      · subst b
        simp
      · simp [a, b]
  · rw [List.getElem?_eq_none (by rw [swp_len, swp_len]; omega), List.getElem?_eq_none (by omega)]
theorem TbOk.swp (h : TbOk c rss) (hi : i + 1 < rss.length) : TbOk c (swp i rss) := h.sub (by rw [swp_len]; exact h.l40) (swp_mem hi)
@[irreducible] def exF : List D → T D := f_exchanged
theorem exch_eq : m_exchanged = bSeq (sExpr (eCall 1 f_need_table (aCons (eVar 0) aNil))) (bSeq (sExpr (eCall 2 f_need_position (aCons (eVar 1) (aCons (eBin opSub (eProp "Table" f_Table_height (eVar 0)) (eC (.int 2))) aNil)))) (bSeq (sOwn 2 (lMeth "Table" "rows" f_Table_rows (eVar 0))) (bSeq (sSet2 2 (eVar 1) (eBin opAdd (eVar 1) (eC (.int 1))) (ixOwn 2 (eBin opAdd (eVar 1) (eC (.int 1)))) (ixOwn 2 (eVar 1))) (bFreeze 2 (sRet (eMake "Table" 2 [] f_Table_init (aCons (eProp "Table" f_Table_columns (eVar 0)) (aCons (eVar 2) aNil)))))))) := by
  unfold m_exchanged
  rfl
theorem at_map {V : Type} {f : V → D} {l : List V} (h : i < l.length) (d : V) : atI (l.map f) (i : Int) = some (f (l.getD i d)) := by
  unfold atI
  rw [ixN_nat (by simp; exact h)]
  show (l.map f)[i]? = _
  rw [List.getElem?_map, List.getD_eq_getElem?_getD, List.getElem?_eq_getElem h]
  rfl
theorem ix_map {V : Type} {f : V → D} {l : List V} (h : i < l.length) (d : V) : ixL (l.map f) (.int (i : Int)) = .ret (f (l.getD i d)) := by
  unfold ixL
  dsimp only
  rw [at_map h d]
theorem set_map {V : Type} {f : V → D} (l : List V) (v : V) : (l.map f).set i (f v) = (l.set i v).map f := by rw [List.map_set]
theorem exch_val (h : TbOk c rss) (hi : i + 1 < rss.length) : exF [tabD c rss, .int (i : Int)] = .ret (tabD c (swp i rss)) := by
  unfold exF
  refine v_run (ρ := [tE c rss, nE i, .un]) rfl ?_
  rw [exch_eq]
  have l := h.l40
  have e1 : sOwn 2 (lMeth "Table" "rows" f_Table_rows (eVar 0)) [tE c rss, nE i, .un] = .ret (.nx [tE c rss, nE i, .own (rss.map rowD)]) := v_own (l_rows h rfl)
  have n1 : ∀ x : Ent, eBin opAdd (eVar 1) (eC (.int 1)) [tE c rss, nE i, x] = .ret (.int ((i + 1 : Nat) : Int)) := fun x => v_bin (x := .int (i : Int)) (y := .int 1) rfl rfl (by rw [Int.natCast_add]; rfl)
  have a1 : ixOwn 2 (eBin opAdd (eVar 1) (eC (.int 1))) [tE c rss, nE i, .own (rss.map rowD)] = .ret (rowD (rss.getD (i + 1) [])) := by
    unfold ixOwn
    simp only [List.getElem?_cons_succ, List.getElem?_cons_zero, n1, T.bind]
    exact ix_map hi []
  have a2 : ixOwn 2 (eVar 1) [tE c rss, nE i, .own (rss.map rowD)] = .ret (rowD (rss.getD i [])) := by
    unfold ixOwn
    simp only [List.getElem?_cons_succ, List.getElem?_cons_zero, eVar, T.bind]
    exact ix_map (by omega) []
  have e2 : sSet2 2 (eVar 1) (eBin opAdd (eVar 1) (eC (.int 1))) (ixOwn 2 (eBin opAdd (eVar 1) (eC (.int 1)))) (ixOwn 2 (eVar 1)) [tE c rss, nE i, .own (rss.map rowD)] = .ret (.nx [tE c rss, nE i, .own ((swp i rss).map rowD)]) := by
    have x1 : ixN (rss.map rowD).length (i : Int) = some i := ixN_nat (by simp; omega)
    have x2 : ixN ((rss.set i (rss.getD (i + 1) [])).map rowD).length ((i + 1 : Nat) : Int) = some (i + 1) := ixN_nat (by simp; exact hi)
    have v1 : eVar 1 [tE c rss, nE i, .own (rss.map rowD)] = .ret (.int (i : Int)) := rfl
    unfold sSet2
    simp only [List.getElem?_cons_succ, List.getElem?_cons_zero, a1, a2, v1, T.bind, x1, set_map, List.set_cons_succ, List.set_cons_zero, n1, x2]
    rfl
  have e3 : bFreeze 2 (sRet (eMake "Table" 2 [] f_Table_init (aCons (eProp "Table" f_Table_columns (eVar 0)) (aCons (eVar 2) aNil)))) [tE c rss, nE i, .own ((swp i rss).map rowD)] = .ret (.rt (tabD c (swp i rss))) := by
    show sRet (eMake "Table" 2 [] f_Table_init (aCons (eProp "Table" f_Table_columns (eVar 0)) (aCons (eVar 2) aNil))) [tE c rss, nE i, .val (.lst ((swp i rss).map rowD))] = _
    exact v_ret (mkT (h.swp hi) (p_cols (rss := rss) rfl) rfl)
  exact v_ex (v_call1 (x := tabD c rss) rfl (need_table_val c rss)) (v_ex (x := .non) (v_call2 (x := .int (i : Int)) (y := .int ((rss.length : Int) - 2)) rfl (v_bin (p_height (c := c) (rss := rss) rfl) (y := .int 2) rfl rfl) (position_ok (by omega) (by omega))) (v_nx e1 (v_nx e2 e3)))
def prD (rs : List Rat) : D := .lst (rs.map qP)
def prs (rss : List (List Rat)) : D := .lst (rss.map prD)
def pP2 (q : Rat) : PyData := .tuple [.int q.num, .int q.den]
def pRow (rs : List Rat) : PyData := .list (rs.map pP2)
theorem py_row (rs : List Rat) : (prD rs).py = some (pRow rs) := by
  have e : ∀ rs : List Rat, D.pys (rs.map qP) = some (rs.map pP2) := fun rs => by
    induction rs with
    | nil => rfl
    | cons r rs ih =>
      unfold List.map D.pys
      rw [ih]
      rfl
  unfold prD D.py
  rw [e]
  rfl
theorem py_tab (rss : List (List Rat)) : (prs rss).py = some (.list (rss.map pRow)) := by
  have e : ∀ rss : List (List Rat), D.pys (rss.map prD) = some (rss.map pRow) := fun rss => by
    induction rss with
    | nil => rfl
    | cons r rs ih =>
      unfold List.map D.pys
      rw [ih, py_row]
  unfold prs D.py
  rw [e]
theorem lay_tab (rss : List (List Rat)) : SeqAt.shaped (.list (rss.map pRow)) = true := by
  have r1 : ∀ rs : List Rat, PyData.canLayAll0 (rs.map pP2) = true ∧ PyData.depthAll (rs.map pP2) ≤ 1 := fun rs => by
    induction rs with
    | nil => exact ⟨rfl, Nat.zero_le _⟩
    | cons r rs ih => exact ⟨by
        show ((pP2 r).canLay0 && PyData.canLayAll0 (rs.map pP2)) = true
        rw [ih.1]
        rfl, Nat.max_le.mpr ⟨Nat.le_refl _, ih.2⟩⟩
  have r2 : ∀ rss : List (List Rat), PyData.canLayAll0 (rss.map pRow) = true ∧ PyData.depthAll (rss.map pRow) ≤ 2 := fun rss => by
    induction rss with
    | nil => exact ⟨rfl, Nat.zero_le _⟩
    | cons r rs ih => exact ⟨by
        show (PyData.canLayAll0 (r.map pP2) && PyData.canLayAll0 (rs.map pRow)) = true
        rw [ih.1, (r1 r).1]
        rfl, Nat.max_le.mpr ⟨Nat.succ_le_succ (r1 r).2, ih.2⟩⟩
  unfold SeqAt.shaped
  have := (r2 rss).2
  rw [show (PyData.list (rss.map pRow)).canLay0 = PyData.canLayAll0 (rss.map pRow) from rfl, (r2 rss).1, decide_eq_true]
  · rfl
  · show PyData.depthAll (rss.map pRow) + 1 ≤ _
    omega
theorem eqv_tab (rss : List (List Rat)) : PyData.eqv (.list (rss.map pRow)) (.list (rss.map pRow)) = true := by
  have p1 : ∀ q : Rat, PyData.eqv (pP2 q) (pP2 q) = true := fun q => by
    unfold pP2
    simp [PyData.eqv, PyData.eqvAll]
  have r1 : ∀ rs : List Rat, PyData.eqvAll (rs.map pP2) (rs.map pP2) = true := fun rs => by
    induction rs with
    | nil => simp [PyData.eqvAll]
    | cons r rs ih =>
      rw [List.map_cons]
      unfold PyData.eqvAll
      rw [p1, ih]
      rfl
  have r2 : ∀ rss : List (List Rat), PyData.eqvAll (rss.map pRow) (rss.map pRow) = true := fun rss => by
    induction rss with
    | nil => simp [PyData.eqvAll]
    | cons r rs ih =>
      have z : PyData.eqv (pRow r) (pRow r) = true := by
        unfold pRow
        unfold PyData.eqv
        exact r1 r
      rw [List.map_cons]
      unfold PyData.eqvAll
      rw [z, ih]
      rfl
  unfold PyData.eqv
  exact r2 rss
theorem eq_prs (rss : List (List Rat)) : opEqF (prs rss) (prs rss) = .ret (.bl true) := by
  show opEq (prs rss) (prs rss) = _
  unfold opEq eqD
  rw [py_tab]
  dsimp only
  rw [lay_tab, eqv_tab]
  rfl
@[irreducible] def lpF : List D → T D := f__law_pair
theorem pair_val (q : Rat) : lpF [qR q] = .ret (qP q) := by
  unfold lpF
  refine v_run (ρ := [.val (qR q)]) rfl (v_ret (tup2 ?_ ?_))
  · unfold eProp
    have i : isC "Ratio" (qR q) = .ret () := isC_ratio _ _
    simp only [eVar, List.getElem?_cons_zero, T.bind, i]
    exact rtop_ratio _ _
  · unfold eProp
    have i : isC "Ratio" (qR q) = .ret () := isC_ratio _ _
    simp only [eVar, List.getElem?_cons_zero, T.bind, i]
    exact rbottom_ratio _ _
@[irreducible] def liComp : Rho → T (List D) := lComp [4] (iLst (eMeth "Table" "rows" 0 arwF (eVar 0) aNil)) (gNm 4) yesT (eL (lComp [5] (iLst (eVar 4)) (gNm 5) yesT (eCall 1 lpF (aCons (eVar 5) aNil))))
theorem is_eq : m__law_is = bSeq (sOwn 3 liComp) (bFreeze 3 (sRet (eAnd (eBin opEqF (eProp "Table" f_Table_columns (eVar 0)) (eVar 1)) (eAnd (eBin opEqF (eProp "Table" f_Table_height (eVar 0)) (eCa bLen (aCons (eVar 2) aNil))) (eBin opEqF (eVar 3) (eVar 2)))))) := by
  unfold m__law_is liComp arwF lpF
  rfl
theorem liComp_val (h : TbOk c rss) (x1 x2 : Ent) : liComp [tE c rss, x1, x2, .un, .un, .un] = .ret (rss.map prD) := by
  unfold liComp
  have l := h.l40
  refine comp_g (e := rowD) (f := prD) (it_lst (m_rows h rfl)) (by omega) fun rs hrs => ⟨_, rfl, v_L (ds := rs.map qP) ?_⟩
  have w := h.w rs hrs
  have := h.c3
  exact comp_g (e := qR) (f := qP) (it_lst (ds := rs.map qR) rfl) (by omega) fun q _ => ⟨_, rfl, v_call1 (x := qR q) rfl (pair_val q)⟩
@[irreducible] def isF : List D → T D := f__law_is
theorem is_val (h : TbOk c rss) : isF [tabD c rss, .int (c : Int), prs rss] = .ret (.bl true) := by
  unfold isF
  refine v_run (ρ := [tE c rss, nE c, .val (prs rss), .un, .un, .un]) rfl ?_
  rw [is_eq]
  refine v_nx (v_own (liComp_val h _ _)) ?_
  show sRet _ [tE c rss, nE c, .val (prs rss), .val (prs rss), .un, .un] = _
  refine v_ret (v_and (v_bin (p_cols (rss := rss) rfl) (y := .int (c : Int)) rfl (by rw [eqI']; simp)) (v_and (v_bin (p_height (c := c) (rss := rss) rfl) (y := .int (rss.length : Int)) (v_ca (x := prs rss) rfl ?_) (by rw [eqI']; simp)) (v_bin (x := prs rss) (y := prs rss) rfl rfl (eq_prs rss))))
  show T.ret (D.int ((rss.map prD).length : Int)) = _
  rw [List.length_map]
end
end Pd
namespace Pd
open PySem L2 PySem.Spec PyProof.Rows
section
variable {c : Nat} {rss qss : List (List Rat)} {ρ : Rho} {i j k : Nat}
theorem len_prs {m : Rho → T D} (h : m ρ = .ret (prs rss)) : eCa bLen (aCons m aNil) ρ = .ret (.int (rss.length : Int)) := v_ca h (by
  show T.ret (D.int ((rss.map prD).length : Int)) = _
  rw [List.length_map])
theorem int_add {a b : Rho → T D} (ha : a ρ = .ret (.int (i : Int))) (hb : b ρ = .ret (.int (j : Int))) : eBin opAdd a b ρ = .ret (.int ((i + j : Nat) : Int)) := v_bin ha hb (by rw [Int.natCast_add]; rfl)
theorem int_sub {a b : Rho → T D} (ha : a ρ = .ret (.int (i : Int))) (hb : b ρ = .ret (.int (j : Int))) (h : j ≤ i) : eBin opSub a b ρ = .ret (.int ((i - j : Nat) : Int)) := v_bin ha hb (by rw [show ((i - j : Nat) : Int) = (i : Int) - (j : Int) by omega]; rfl)
theorem lo_prs {a b : Rho → T D} (ha : a ρ = .ret (prs rss)) (hb : b ρ = .ret (.int (i : Int))) (h : i ≤ rss.length) : eSl a oNo (oPart b) ρ = .ret (prs (rss.take i)) := by
  have e := sl_val (xs := rss.map prD) (lo := oNo) ha rfl (part_val hb)
  rw [e, cut_lo (by simp; exact h), ← List.map_take]
  rfl
theorem hi_prs {a b : Rho → T D} (ha : a ρ = .ret (prs rss)) (hb : b ρ = .ret (.int (i : Int))) (h : i ≤ rss.length) : eSl a (oPart b) oNo ρ = .ret (prs (rss.drop i)) := by
  have e := sl_val (xs := rss.map prD) (hi := oNo) ha (part_val hb) rfl
  rw [e, cut_hi (by simp; exact h), ← List.map_drop]
  rfl
theorem hi_over {a b : Rho → T D} (ha : a ρ = .ret (prs rss)) (hb : b ρ = .ret (.int (i : Int))) : eSl a (oPart b) oNo ρ = .ret (prs (rss.drop i)) := by
  have e := sl_val (xs := rss.map prD) (hi := oNo) ha (part_val hb) rfl
  rw [e]
  unfold cutD
  rw [HT.sIx_none, HT.sIx_nat, List.length_map]
  by_cases h : i ≤ rss.length
  · rw [Nat.min_eq_left h, List.take_of_length_le (by simp), ← List.map_drop]
    rfl
  · rw [Nat.min_eq_right (by omega), Nat.sub_self, List.take_zero, List.drop_of_length_le (by omega)]
    rfl
theorem mid_prs {a b d : Rho → T D} (ha : a ρ = .ret (prs rss)) (hb : b ρ = .ret (.int (i : Int))) (hd : d ρ = .ret (.int (j : Int))) (hij : i ≤ j) (h : j ≤ rss.length) : eSl a (oPart b) (oPart d) ρ = .ret (prs (mid i j rss)) := by
  have e := sl_val (xs := rss.map prD) ha (part_val hb) (part_val hd)
  rw [e, cut_both hij (by simp; exact h), ← List.map_drop, ← List.map_take]
  rfl
theorem add_prs {a b : Rho → T D} (ha : a ρ = .ret (prs rss)) (hb : b ρ = .ret (prs qss)) (h : rss.length + qss.length ≤ 1000) : eBin opAdd a b ρ = .ret (prs (rss ++ qss)) := by
  have e := v_add (xs := rss.map prD) (ys := qss.map prD) ha hb (by simp; omega)
  rw [e, ← List.map_append]
  rfl
theorem not_is {a b d : Rho → T D} (h : TbOk c rss) (ha : a ρ = .ret (tabD c rss)) (hb : b ρ = .ret (.int (c : Int))) (hd : d ρ = .ret (prs rss)) : tNot' (eTest (eCall 3 isF (aCons a (aCons b (aCons d aNil))))) ρ = .ret false := v_not (p := true) (v_test (v_call3 ha hb hd (is_val h)))
theorem not_same {a b : Rho → T D} (ha : a ρ = .ret (tabD c rss)) (hb : b ρ = .ret (tabD c rss)) : tNot' (eTest (eBin opEA a b)) ρ = .ret false := v_not (p := true) (v_test (v_bin ha hb opEA_tab))
theorem callK2 {p q : Nat} {a b : Rho → T D} {F : List D → T D} {x y z : D} (ha : a ρ = .ret x) (hb : b ρ = .ret y) (h : F [([x, y] : List D).getD p .non, ([x, y] : List D).getD q .non] = .ret z) : eCallK 2 [p, q] F (aCons a (aCons b aNil)) ρ = .ret z := by
  simp only [eCallK, aCons, aNil, ha, hb, T.bind, List.length_cons, List.length_nil, BEq.rfl, cond]
  exact h
theorem callK3 {p q r : Nat} {a b d : Rho → T D} {F : List D → T D} {x y u z : D} (ha : a ρ = .ret x) (hb : b ρ = .ret y) (hd : d ρ = .ret u) (h : F [([x, y, u] : List D).getD p .non, ([x, y, u] : List D).getD q .non, ([x, y, u] : List D).getD r .non] = .ret z) : eCallK 3 [p, q, r] F (aCons a (aCons b (aCons d aNil))) ρ = .ret z := by
  simp only [eCallK, aCons, aNil, ha, hb, hd, T.bind, List.length_cons, List.length_nil, BEq.rfl, cond]
  exact h
theorem mid_len (hij : i ≤ j) (hj : j ≤ rss.length) : (mid i j rss).length = j - i := by
  unfold mid
  simp
  omega
theorem cut3 (hij : i ≤ j) (hj : j ≤ rss.length) : mid 0 i rss ++ mid i j rss ++ mid j rss.length rss = rss := by
  have a : mid 0 i rss = rss.take i := by unfold mid; simp
  have b : mid j rss.length rss = rss.drop j := by
    unfold mid
    rw [List.take_of_length_le (by simp)]
  have d : rss.take i ++ mid i j rss = rss.take j := by
    unfold mid
    rw [show j = i + (j - i) by omega, List.take_add, Nat.add_sub_cancel_left]
  rw [a, b, d, List.take_append_drop]
@[irreducible] def pcN : Rho → T Out := sPar 7 8 (eCall 3 pcF (aCons (eVar 1) (aCons (eC (.int 0)) (aCons (eVar 4) aNil)))) (eCallK 3 [1, 2, 0] pcF (aCons (eCa bLen (aCons (eVar 3) aNil)) (aCons (eVar 1) (aCons (eVar 5) aNil))))
@[irreducible] def pcM : Rho → T D := eCall 3 pcF (aCons (eVar 1) (aCons (eVar 4) (aCons (eVar 5) aNil)))
@[irreducible] def pcT : Rho → T Bool := tOr' (tNot' (eTest (eCall 3 isF (aCons (eVar 6) (aCons (eVar 2) (aCons (eSl (eVar 3) (oPart (eVar 4)) (oPart (eVar 5))) aNil)))))) (tOr' (tNot' (eTest (eCall 3 isF (aCons (eVar 7) (aCons (eVar 2) (aCons (eSl (eVar 3) oNo (oPart (eVar 4))) aNil)))))) (tNot' (eTest (eCall 3 isF (aCons (eVar 8) (aCons (eVar 2) (aCons (eSl (eVar 3) (oPart (eVar 5)) oNo) aNil)))))))
@[irreducible] def pcE : Rho → T D := eAnd (eBin opEA (eCall 2 joF (aCons (eCall 2 joF (aCons (eVar 7) (aCons (eVar 6) aNil))) (aCons (eVar 8) aNil))) (eVar 1)) (eBin opEA (eCallK 2 [0, 1] joF (aCons (eVar 7) (aCons (eCall 2 joF (aCons (eVar 6) (aCons (eVar 8) aNil))) aNil))) (eVar 1))
theorem pieces_eq : m__law_pieces_right = bSeq (sSet 4 (eCall 2 f__law_draw (aCons (eVar 0) (aCons (eBin opAdd (eCa bLen (aCons (eVar 3) aNil)) (eC (.int 1))) aNil)))) (bSeq (sSet 5 (eBin opAdd (eVar 4) (eCall 2 f__law_draw (aCons (eVar 0) (aCons (eBin opSub (eBin opAdd (eCa bLen (aCons (eVar 3) aNil)) (eC (.int 1))) (eVar 4)) aNil))))) (bSeq pcN (bSeq (sSet 6 pcM) (bSeq (sIf pcT (sRet (eC (.bl false))) bNil) (sRet pcE))))) := by
  unfold m__law_pieces_right pcN pcM pcT pcE pcF isF joF opEA
  rfl
abbrev pcR (c : Nat) (rss : List (List Rat)) (x4 x5 x6 x7 x8 : Ent) : Rho := [.val .pot, tE c rss, nE c, .val (prs rss), x4, x5, x6, x7, x8]
theorem pcN_val (h : TbOk c rss) (hij : i ≤ j) (hj : j ≤ rss.length) {x6 x7 x8 : Ent} : pcN (pcR c rss (nE i) (nE j) x6 x7 x8) = .ret (.nx (pcR c rss (nE i) (nE j) x6 (tE c (mid 0 i rss)) (tE c (mid j rss.length rss)))) := by
  unfold pcN
  exact v_par (v_call3 (x := tabD c rss) (y := .int ((0 : Nat) : Int)) (u := .int (i : Int)) rfl rfl rfl (piece_val h (by omega) (by omega))) (callK3 (x := .int (rss.length : Int)) (y := tabD c rss) (u := .int (j : Int)) (len_prs rfl) rfl rfl (piece_val h hj (Nat.le_refl _)))
theorem pcM_val (h : TbOk c rss) (hij : i ≤ j) (hj : j ≤ rss.length) {x6 x7 x8 : Ent} : pcM (pcR c rss (nE i) (nE j) x6 x7 x8) = .ret (tabD c (mid i j rss)) := by
  unfold pcM
  exact v_call3 (x := tabD c rss) (y := .int (i : Int)) (u := .int (j : Int)) rfl rfl rfl (piece_val h hij hj)
theorem TbOk.mid (h : TbOk c rss) (i j : Nat) : TbOk c (mid i j rss) := (h.drop i).take (j - i)
theorem mid_lo : mid 0 i rss = rss.take i := by unfold mid; simp
theorem mid_hi : mid j rss.length rss = rss.drop j := by
  unfold mid
  rw [List.take_of_length_le (by simp)]
theorem pcT_val (h : TbOk c rss) (hij : i ≤ j) (hj : j ≤ rss.length) : pcT (pcR c rss (nE i) (nE j) (tE c (mid i j rss)) (tE c (mid 0 i rss)) (tE c (mid j rss.length rss))) = .ret false := by
  unfold pcT
  refine v_or (not_is (h.mid i j) rfl rfl (mid_prs (i := i) (j := j) rfl rfl rfl hij hj)) (v_or ?_ ?_)
  · rw [mid_lo]
    exact not_is (h.take i) rfl rfl (lo_prs (i := i) (rss := rss) rfl rfl (by omega))
  · rw [mid_hi]
    exact not_is (h.drop j) rfl rfl (hi_prs (i := j) (rss := rss) rfl rfl (by omega))
theorem pcE_val (h : TbOk c rss) (hij : i ≤ j) (hj : j ≤ rss.length) : pcE (pcR c rss (nE i) (nE j) (tE c (mid i j rss)) (tE c (mid 0 i rss)) (tE c (mid j rss.length rss))) = .ret (.bl true) := by
  have l := h.l40
  have l1 := mid_len (rss := rss) (i := 0) (j := i) (by omega) (by omega)
  have l2 := mid_len hij hj
  have l3 := mid_len (rss := rss) (i := j) (j := rss.length) hj (Nat.le_refl _)
  have ok1 := (h.mid 0 i).app (h.mid i j) (by omega)
  have ok2 := (h.mid i j).app (h.mid j rss.length) (by omega)
  have e1 := joined_val (h.mid 0 i) (h.mid i j) (by omega)
  have e2 := joined_val ok1 (h.mid j rss.length) (by simp only [List.length_append]; omega)
  have e3 := joined_val (h.mid i j) (h.mid j rss.length) (by omega)
  have e4 := joined_val (h.mid 0 i) ok2 (by simp only [List.length_append]; omega)
  rw [cut3 hij hj] at e2
  rw [← List.append_assoc, cut3 hij hj] at e4
  unfold pcE
  exact v_and (v_bin (v_call2 (v_call2 (x := tabD c (mid 0 i rss)) (y := tabD c (mid i j rss)) rfl rfl e1) (y := tabD c (mid j rss.length rss)) rfl e2) rfl opEA_tab) (v_bin (callK2 (x := tabD c (mid 0 i rss)) rfl (v_call2 (x := tabD c (mid i j rss)) (y := tabD c (mid j rss.length rss)) rfl rfl e3) e4) rfl opEA_tab)
@[irreducible] def prF : List D → T D := f__law_pieces_right
theorem pieces_all (h : TbOk c rss) : (prF [.pot, tabD c rss, .int (c : Int), prs rss]).all fun d => d = .bl true := by
  have l := h.l40
  have pf : prF = runB 9 m__law_pieces_right := by unfold prF; rfl
  rw [pf]
  refine Pd.A.run (ρ := pcR c rss .un .un .un .un .un) rfl ?_
  rw [pieces_eq]
  refine Pd.A.set (draw_ct (n := rss.length + 1) rfl (int_add (j := 1) (len_prs rfl) rfl) (by omega) (by omega) fun i hi => ?_)
  show ((bSeq (sSet 5 _) _) (pcR c rss (nE i) .un .un .un .un)).all _
  refine Pd.A.set (bin_all (all_eq (a := .int (i : Int)) rfl (draw_ct (n := rss.length + 1 - i) rfl (int_sub (int_add (j := 1) (len_prs rfl) rfl) (j := i) rfl (by omega)) (by omega) (by omega) fun k hk => ?_)))
  have z : opAdd (.int (i : Int)) (.int (k : Int)) = .ret (.int ((i + k : Nat) : Int)) := by rw [Int.natCast_add]; rfl
  refine all_eq z ?_
  show ((bSeq pcN _) (pcR c rss (nE i) (nE (i + k)) .un .un .un)).all _
  refine all_eq (a := .rt (.bl true)) (v_nx (pcN_val h (by omega) (by omega)) (v_set (pcM_val h (by omega) (by omega)) (v_iff (pcT_val h (by omega) (by omega)) (v_ret (pcE_val h (by omega) (by omega)))))) ⟨_, rfl, rfl⟩
@[irreducible] def rrT1 : Rho → T Bool := tOr' (tNot' (eTest (eCall 3 isF (aCons (eVar 7) (aCons (eVar 2) (aCons (eBin opAdd (eBin opAdd (eSl (eVar 3) oNo (oPart (eVar 6))) (eL (lLst (aCons (eVar 5) aNil)))) (eSl (eVar 3) (oPart (eVar 6)) oNo)) aNil)))))) (tOr' (tNot' (eTest (eBin opEA (eCall 2 woF (aCons (eVar 7) (aCons (eVar 6) aNil))) (eVar 1)))) (tNot' (eTest (eBin opEA (eCallK 3 [2, 1, 0] wrF (aCons (eL (lCa bList (aCons (eVar 4) aNil))) (aCons (eVar 6) (aCons (eVar 1) aNil)))) (eVar 7)))))
@[irreducible] def rrT2 : Rho → T Bool := tNot' (eTest (eCall 3 isF (aCons (eCall 2 woF (aCons (eVar 1) (aCons (eVar 8) aNil))) (aCons (eVar 2) (aCons (eBin opAdd (eSl (eVar 3) oNo (oPart (eVar 8))) (eSl (eVar 3) (oPart (eBin opAdd (eVar 8) (eC (.int 1)))) oNo)) aNil)))))
@[irreducible] def rrT3 : Rho → T Bool := eTest (eBin opLt (eBin opAdd (eVar 8) (eC (.int 1))) (eCa bLen (aCons (eVar 3) aNil)))
@[irreducible] def rrT4 : Rho → T Bool := tOr' (tNot' (eTest (eCall 3 isF (aCons (eVar 9) (aCons (eVar 2) (aCons (eBin opAdd (eBin opAdd (eSl (eVar 3) oNo (oPart (eVar 8))) (eL (lLst (aCons (eBin ixD (eVar 3) (eBin opAdd (eVar 8) (eC (.int 1)))) (aCons (eBin ixD (eVar 3) (eVar 8)) aNil))))) (eSl (eVar 3) (oPart (eBin opAdd (eVar 8) (eC (.int 2)))) oNo)) aNil)))))) (tNot' (eTest (eBin opEA (eCallK 2 [1, 0] exF (aCons (eVar 8) (aCons (eVar 9) aNil))) (eVar 1))))
@[irreducible] def rrB : Rho → T Out := bSeq (sIf rrT2 (sRet (eC (.bl false))) bNil) (sIf rrT3 (bSeq (sSet 9 (eCall 2 exF (aCons (eVar 1) (aCons (eVar 8) aNil)))) (sIf rrT4 (sRet (eC (.bl false))) bNil)) bNil)
theorem rowsr_eq : m__law_rows_right = bSeq (sSet 6 (eCall 2 f__law_draw (aCons (eVar 0) (aCons (eBin opAdd (eCa bLen (aCons (eVar 3) aNil)) (eC (.int 1))) aNil)))) (bSeq (sSet 7 (eCall 3 wrF (aCons (eVar 1) (aCons (eVar 6) (aCons (eVar 4) aNil))))) (bSeq (sIf rrT1 (sRet (eC (.bl false))) bNil) (bSeq (sFor (iRg rng1 (aCons (eCa bLen (aCons (eVar 3) aNil)) aNil)) (gNm 8) rrB) (sRet (eC (.bl true)))))) := by
  unfold m__law_rows_right rrB rrT1 rrT2 rrT3 rrT4 wrF woF exF isF opEA
  rfl
abbrev rrR (c : Nat) (rss : List (List Rat)) (v : D) (rs : List Rat) (x6 x7 x8 x9 : Ent) : Rho := [.val .pot, tE c rss, nE c, .val (prs rss), .val v, .val (prD rs), x6, x7, x8, x9]
variable {v : D} {ds : List D} {rs : List Rat}
theorem ca_seq {m : Rho → T D} (h : m ρ = .ret v) (hv : SeqOf v ds) : lCa bList (aCons m aNil) ρ = .ret ds := by
  unfold lCa
  simp only [aCons, aNil, h, T.bind]
  rcases hv with rfl | rfl <;> rfl
abbrev more (i : Nat) (rs : List Rat) (rss : List (List Rat)) : List (List Rat) := rss.take i ++ [rs] ++ rss.drop i
theorem more_ok (h : TbOk c rss) (hn : NumL ds rs) (hc : ds.length = c) (l : rss.length + 1 ≤ 40) : TbOk c (more i rs rss) := by
  refine ((h.take i).app ⟨h.c3, by simp, fun q hq => ?_⟩ ?_).app (h.drop i) ?_
  · rw [List.mem_singleton.mp hq, ← hn.len, hc]
  · simp; omega
  · simp; omega
theorem more_less (hi : i ≤ rss.length) : (more i rs rss).take i ++ (more i rs rss).drop (i + 1) = rss := by
  have lt : (rss.take i).length = i := by simp; omega
  unfold more
  rw [List.append_assoc, List.take_append_of_le_length (by omega), List.take_take, Nat.min_self]
  rw [List.drop_append, lt, List.drop_of_length_le (by omega), show i + 1 - i = 1 by omega, List.nil_append]
  show rss.take i ++ ([rs] ++ rss.drop i).drop 1 = rss
  exact List.take_append_drop i rss
theorem rrT1_val (h : TbOk c rss) (hv : SeqOf v ds) (hn : NumL ds rs) (hc : ds.length = c) (hi : i ≤ rss.length) (l : rss.length + 1 ≤ 40) {x8 x9 : Ent} : rrT1 (rrR c rss v rs (nE i) (tE c (more i rs rss)) x8 x9) = .ret false := by
  have ok := more_ok (i := i) h hn hc l
  have ln : (more i rs rss).length = rss.length + 1 := by unfold more; simp; omega
  have w := without_val (i := i) ok (by omega)
  rw [more_less hi] at w
  have w2 := with_val (i := i) h (v := .lst ds) (.inl rfl) hn hc hi l
  unfold rrT1
  refine v_or (not_is ok rfl rfl ?_) (v_or (not_same (v_call2 (x := tabD c (more i rs rss)) (y := .int (i : Int)) rfl rfl w) rfl) (not_same (callK3 (v_L (ca_seq (v := v) rfl hv)) (y := .int (i : Int)) (u := tabD c rss) rfl rfl w2) rfl))
  refine add_prs (rss := rss.take i ++ [rs]) (qss := rss.drop i) (add_prs (qss := [rs]) (lo_prs (i := i) (rss := rss) rfl rfl hi) ?_ (by simp; omega)) (hi_prs (i := i) (rss := rss) rfl rfl hi) (by simp; omega)
  exact v_L (ds := [prD rs]) rfl
theorem rrT2_val (h : TbOk c rss) (hk : k < rss.length) {x4 x5 x6 x7 x9 : Ent} : rrT2 [.val .pot, tE c rss, nE c, .val (prs rss), x4, x5, x6, x7, nE k, x9] = .ret false := by
  have l := h.l40
  have ok : TbOk c (rss.take k ++ rss.drop (k + 1)) := (h.take k).app (h.drop (k + 1)) (by simp; omega)
  unfold rrT2
  exact not_is ok (v_call2 (x := tabD c rss) (y := .int (k : Int)) rfl rfl (without_val h hk)) rfl (add_prs (lo_prs (i := k) (rss := rss) rfl rfl (by omega)) (hi_prs (i := k + 1) (rss := rss) rfl (int_add (i := k) (j := 1) rfl rfl) (by omega)) (by simp; omega))
theorem rrT3_val {x4 x5 x6 x7 x9 : Ent} : rrT3 [.val .pot, tE c rss, nE c, .val (prs rss), x4, x5, x6, x7, nE k, x9] = .ret (decide (k + 1 < rss.length)) := by
  unfold rrT3
  refine v_test (v_bin (int_add (i := k) (j := 1) rfl rfl) (len_prs (rss := rss) rfl) ?_)
  rw [ltI]
  congr 2
  exact decide_eq_decide.mpr (by omega)
theorem prs_ix {a b : Rho → T D} (ha : a ρ = .ret (prs rss)) (hb : b ρ = .ret (.int (i : Int))) (h : i < rss.length) : eBin ixD a b ρ = .ret (prD (rss.getD i [])) := v_bin ha hb (by
  show ixL (rss.map prD) (.int (i : Int)) = _
  exact ix_map h [])
theorem rrT4_val (h : TbOk c rss) (hk : k + 1 < rss.length) {x4 x5 x6 x7 : Ent} : rrT4 [.val .pot, tE c rss, nE c, .val (prs rss), x4, x5, x6, x7, nE k, tE c (swp k rss)] = .ret false := by
  have l := h.l40
  have ok := h.swp hk
  have e := exch_val (i := k) ok (by rw [swp_len]; exact hk)
  rw [swp_two hk] at e
  unfold rrT4
  have a := prs_ix (rss := rss) (i := k + 1) (ρ := [.val .pot, tE c rss, nE c, .val (prs rss), x4, x5, x6, x7, nE k, tE c (swp k rss)]) (a := eVar 3) (b := eBin opAdd (eVar 8) (eC (.int 1))) rfl (int_add (i := k) (j := 1) rfl rfl) hk
  have b := prs_ix (rss := rss) (i := k) (ρ := [.val .pot, tE c rss, nE c, .val (prs rss), x4, x5, x6, x7, nE k, tE c (swp k rss)]) (a := eVar 3) (b := eVar 8) rfl rfl (by omega)
  have m : eL (lLst (aCons (eBin ixD (eVar 3) (eBin opAdd (eVar 8) (eC (.int 1)))) (aCons (eBin ixD (eVar 3) (eVar 8)) aNil))) [.val .pot, tE c rss, nE c, .val (prs rss), x4, x5, x6, x7, nE k, tE c (swp k rss)] = .ret (prs [rss.getD (k + 1) [], rss.getD k []]) := by
    refine v_L (ds := [prD (rss.getD (k + 1) []), prD (rss.getD k [])]) ?_
    simp only [lLst, aCons, aNil, a, b, T.bind, small2, cond]
  have z := add_prs (add_prs (qss := [rss.getD (k + 1) [], rss.getD k []]) (lo_prs (i := k) (rss := rss) (a := eVar 3) (b := eVar 8) rfl rfl (by omega)) m (by simp; omega)) (hi_over (i := k + 2) (rss := rss) (a := eVar 3) (b := eBin opAdd (eVar 8) (eC (.int 2))) rfl (int_add (i := k) (j := 2) rfl rfl)) (by simp; omega)
  rw [← swp_cut hk] at z
  exact v_or (not_is ok rfl rfl z) (not_same (callK2 (x := .int (k : Int)) (y := tabD c (swp k rss)) rfl rfl e) rfl)
theorem rrB_val (h : TbOk c rss) (hk : k < rss.length) {x4 x5 x6 x7 x9 : Ent} : ∃ y, rrB [.val .pot, tE c rss, nE c, .val (prs rss), x4, x5, x6, x7, nE k, x9] = .ret (.nx [.val .pot, tE c rss, nE c, .val (prs rss), x4, x5, x6, x7, nE k, y]) := by
  have t3 := rrT3_val (c := c) (rss := rss) (k := k) (x4 := x4) (x5 := x5) (x6 := x6) (x7 := x7) (x9 := x9)
  by_cases d : k + 1 < rss.length
  · rw [decide_eq_true d] at t3
    refine ⟨tE c (swp k rss), ?_⟩
    unfold rrB
    refine v_iff (rrT2_val h hk) ?_
    unfold sIf
    rw [t3]
    show bSeq (sSet 9 _) _ _ = _
    refine v_set (v_call2 (x := tabD c rss) (y := .int (k : Int)) rfl rfl (exch_val h d)) ?_
    have t4 := rrT4_val h d (x4 := x4) (x5 := x5) (x6 := x6) (x7 := x7)
    show ((rrT4 [.val .pot, tE c rss, nE c, .val (prs rss), x4, x5, x6, x7, nE k, tE c (swp k rss)]).bind _) = _
    rw [t4]
    rfl
  · rw [decide_eq_false d] at t3
    refine ⟨x9, ?_⟩
    unfold rrB
    refine v_iff (rrT2_val h hk) ?_
    unfold sIf
    rw [t3]
    rfl
theorem rr_for (h : TbOk c rss) {x4 x5 x6 x7 : Ent} : ∀ {n k : Nat} {x8 x9 : Ent}, k + n ≤ rss.length → ∃ y8 y9, forT (fun d ρ => (gNm 8 d ρ).bind rrB) (upto (k : Int) n) [.val .pot, tE c rss, nE c, .val (prs rss), x4, x5, x6, x7, x8, x9] = .ret (.nx [.val .pot, tE c rss, nE c, .val (prs rss), x4, x5, x6, x7, y8, y9])
  | 0, k, x8, x9, _ => ⟨x8, x9, rfl⟩
  | n + 1, k, x8, x9, hn => by
    obtain ⟨y, e⟩ := rrB_val (k := k) h (by omega) (x4 := x4) (x5 := x5) (x6 := x6) (x7 := x7) (x9 := x9)
    obtain ⟨y8, y9, e2⟩ := rr_for h (n := n) (k := k + 1) (x8 := nE k) (x9 := y) (x4 := x4) (x5 := x5) (x6 := x6) (x7 := x7) (by omega)
    refine ⟨y8, y9, ?_⟩
    show (rrB [.val .pot, tE c rss, nE c, .val (prs rss), x4, x5, x6, x7, nE k, x9]).bind _ = _
    rw [e]
    exact e2
@[irreducible] def rwRF : List D → T D := f__law_rows_right
theorem rows_all' (h : TbOk c rss) (hv : SeqOf v ds) (hn : NumL ds rs) (hc : ds.length = c) (l : rss.length + 1 ≤ 40) : (rwRF [.pot, tabD c rss, .int (c : Int), prs rss, v, prD rs]).all fun d => d = .bl true := by
  have pf : rwRF = runB 10 m__law_rows_right := by unfold rwRF; rfl
  rw [pf]
  refine Pd.A.run (ρ := rrR c rss v rs .un .un .un .un) rfl ?_
  rw [rowsr_eq]
  refine Pd.A.set (draw_ct (n := rss.length + 1) rfl (int_add (j := 1) (len_prs rfl) rfl) (by omega) (by omega) fun i hi => ?_)
  show ((bSeq (sSet 7 _) _) (rrR c rss v rs (nE i) .un .un .un)).all _
  obtain ⟨y8, y9, e⟩ := rr_for (c := c) (x4 := .val v) (x5 := .val (prD rs)) (x6 := nE i) (x7 := tE c (more i rs rss)) h (n := rss.length) (k := 0) (x8 := .un) (x9 := .un) (by omega)
  have f : sFor (iRg rng1 (aCons (eCa bLen (aCons (eVar 3) aNil)) aNil)) (gNm 8) rrB (rrR c rss v rs (nE i) (tE c (more i rs rss)) .un .un) = .ret (.nx (rrR c rss v rs (nE i) (tE c (more i rs rss)) y8 y9)) := by
    unfold sFor
    rw [rng_val (k := rss.length) (len_prs rfl) (by omega)]
    exact e
  exact all_eq (a := .rt (.bl true)) (v_set (v_call3 (x := tabD c rss) (y := .int (i : Int)) (u := v) rfl rfl rfl (with_val (i := i) h hv hn hc (by omega) l)) (v_iff (rrT1_val h hv hn hc (by omega) l) (v_nx f rfl))) ⟨_, rfl, rfl⟩
end
end Pd
namespace Pd
open PySem L2 PySem.Spec PyProof.Rows
def lowB (t b : Int) : Bool := match f__law_low [.int t, .int b] with
  | .ret (.tup [.int a, .int e]) => a == (Rat.divInt t b).num && e == ((Rat.divInt t b).den : Int)
  | _ => false
theorem low_all : ((List.range 9).all fun i => ([1, 2, 3] : List Int).all fun b => lowB ((i : Int) - 4) b) = true := by decide +kernel
@[irreducible] def lwF : List D → T D := f__law_low
theorem low_val {i : Nat} (hi : i < 9) {b : Int} (hb : b ∈ ([1, 2, 3] : List Int)) : lwF [.int ((i : Int) - 4), .int b] = .ret (qP (Rat.divInt ((i : Int) - 4) b)) := by
  have e := List.all_eq_true.mp (List.all_eq_true.mp low_all i (List.mem_range.mpr hi)) b hb
  unfold lowB at e
  unfold lwF
  split at e
  · rename_i a z h
    simp only [Bool.and_eq_true, beq_iff_eq] at e
    rw [h, e.1, e.2]
    rfl
  · cases e
@[irreducible] def nuP : Rho → T D := eIf (tAnd' (eTest (eBin opEqF (eBin ixD (eVar 1) (eC (.int 1))) (eC (.int 1)))) (eTest (eBin opEqF (eCall 2 f__law_draw (aCons (eVar 0) (aCons (eC (.int 2)) aNil))) (eC (.int 0))))) (eBin ixD (eVar 1) (eC (.int 0))) (eMake "Ratio" 2 [] f_Ratio_init (aCons (eVar 2) (aCons (eVar 3) aNil)))
theorem number_eq : m__law_number = bSeq (sPar 2 3 (eBin opSub (eCall 2 f__law_draw (aCons (eVar 0) (aCons (eC (.int 9)) aNil))) (eC (.int 4))) (eCall 2 pkF (aCons (eVar 0) (aCons (eL (lLst (aCons (eC (.int 1)) (aCons (eC (.int 1)) (aCons (eC (.int 1)) (aCons (eC (.int 2)) (aCons (eC (.int 3)) aNil))))))) aNil)))) (bSeq (sSet 1 (eCall 2 lwF (aCons (eVar 2) (aCons (eVar 3) aNil)))) (sRet (eTup (aCons nuP (aCons (eVar 1) aNil))))) := by
  unfold m__law_number nuP lwF pkF
  rfl
theorem if_all' {t : Rho → T Bool} {a b : Rho → T D} {ρ : Rho} {P : D → Prop} (h : (t ρ).all fun p => ((if p then a else b) ρ).all P) : (eIf t a b ρ).all P := by
  unfold eIf
  refine T.all_bind.mpr (T.all_mono (fun p hp => ?_) h)
  cases p <;> exact hp
theorem whole_of {q : Rat} (h : q.den = 1) : ((q.num : Int) : Rat) = q := by
  refine Rat.ext ?_ ?_
  · exact Rat.num_intCast _
  · rw [Rat.den_intCast, h]
theorem nuP_all {t b : Int} (hb : b ≠ 0) (hs : b.natAbs < 8) : (nuP [.val .pot, .val (qP (Rat.divInt t b)), .val (.int t), .val (.int b)]).all fun d => Num d (Rat.divInt t b) := by
  have mk : eMake "Ratio" 2 [] f_Ratio_init (aCons (eVar 2) (aCons (eVar 3) aNil)) [.val .pot, .val (qP (Rat.divInt t b)), .val (.int t), .val (.int b)] = .ret (qR (Rat.divInt t b)) := by
    rw [← lowR_rat hb]
    exact mk_val (x := eVar 2) (y := eVar 3) rfl rfl hb (log_of (n := 3) hs (by decide) (by decide))
  unfold nuP
  refine if_all' ?_
  have e1 : eTest (eBin opEqF (eBin ixD (eVar 1) (eC (.int 1))) (eC (.int 1))) [.val .pot, .val (qP (Rat.divInt t b)), .val (.int t), .val (.int b)] = .ret (decide (((Rat.divInt t b).den : Int) = 1)) := v_test (v_bin (v_bin (x := qP (Rat.divInt t b)) (y := .int 1) rfl rfl rfl) (y := .int 1) rfl (eqI' _ _))
  by_cases h : ((Rat.divInt t b).den : Int) = 1
  · rw [decide_eq_true h] at e1
    unfold tAnd'
    rw [e1]
    show (eTest _ _).all _
    refine T.all_bind.mpr (bin_all (draw_ct (n := 2) rfl rfl (by decide) (by decide) fun k hk => ?_))
    refine all_eq (a := .int 0) rfl ?_
    rw [eqI']
    refine all_eq (a := .bl (decide ((k : Int) = 0))) rfl ?_
    refine all_eq (a := decide ((k : Int) = 0)) rfl ?_
    cases decide ((k : Int) = 0) with
    | true =>
      show (eBin ixD (eVar 1) (eC (.int 0)) _).all _
      refine all_eq (a := .int (Rat.divInt t b).num) rfl ?_
      have n := Num.i (Rat.divInt t b).num
      rw [whole_of (by omega)] at n
      exact n
    | false => exact all_eq mk (Num.q _)
  · rw [decide_eq_false h] at e1
    unfold tAnd'
    rw [e1]
    exact all_eq (a := false) rfl (all_eq mk (Num.q _))
@[irreducible] def nuF : List D → T D := f__law_number
theorem number_all : (nuF [.pot]).all fun d => ∃ x q, d = .tup [x, qP q] ∧ Num x q ∧ Sz 3 q := by
  have pf : nuF = runB 4 m__law_number := by unfold nuF; rfl
  rw [pf]
  refine Pd.A.run (ρ := [.val .pot, .un, .un, .un]) rfl ?_
  rw [number_eq]
  refine seq_nx (T.all_bind.mpr (bin_all (draw_ct (n := 9) rfl rfl (by decide) (by decide) fun i hi => ?_)))
  refine all_eq (a := .int 4) rfl (all_eq (a := .int ((i : Int) - 4)) rfl ?_)
  refine T.all_bind.mpr (pickE_all (i := 0) rfl (ds := [.int 1, .int 1, .int 1, .int 2, .int 3]) rfl (by decide) (by decide) fun d hd => ?_)
  obtain ⟨b, rfl, hb⟩ : ∃ b : Int, d = .int b ∧ b ∈ ([1, 2, 3] : List Int) := by
    simp only [List.mem_cons, List.not_mem_nil, or_false] at hd
    rcases hd with rfl | rfl | rfl | rfl | rfl <;> exact ⟨_, rfl, by simp⟩
  have b0 : b ≠ 0 ∧ b.natAbs < 8 := by
    simp only [List.mem_cons, List.not_mem_nil, or_false] at hb
    omega
  refine ⟨_, rfl, ?_⟩
  show ((bSeq (sSet 1 _) _) [.val .pot, .un, .val (.int ((i : Int) - 4)), .val (.int b)]).all _
  refine Pd.A.set (all_eq (v_call2 (x := .int ((i : Int) - 4)) (y := .int b) rfl rfl (low_val hi hb)) ?_)
  show (sRet _ [.val .pot, .val (qP (Rat.divInt ((i : Int) - 4) b)), .val (.int ((i : Int) - 4)), .val (.int b)]).all _
  refine Pd.A.ret ?_
  have z : Sz 3 (Rat.divInt ((i : Int) - 4) b) := sz_divInt b0.1 (by omega) b0.2
  have q := nuP_all (t := (i : Int) - 4) b0.1 b0.2
  unfold eTup
  refine T.all_bind.mpr (T.all_bind.mpr (T.all_mono (fun x hx => ?_) q))
  refine all_eq (a := [x, qP (Rat.divInt ((i : Int) - 4) b)]) rfl (all_eq (a := .tup [x, qP (Rat.divInt ((i : Int) - 4) b)]) (by simp only [small2, cond]) ?_)
  exact ⟨_, rfl, x, _, rfl, hx, z⟩
structure RwG (c : Nat) (vs : List D) (rss : List (List Rat)) : Prop where
  L : RowsL c vs rss
  sz : ∀ rs ∈ rss, ∀ r ∈ rs, Sz 3 r
@[irreducible] def rwIn : Rho → T Out := bSeq (sAsg (gTp 2 (gsCons (gNm 9) (gsCons (gNm 10) gsNil))) (eCall 1 nuF (aCons (eVar 0) aNil))) (bSeq (sApp 7 (eVar 9)) (sApp 8 (eVar 10)))
@[irreducible] def rwPut : Rho → T D := eIf (eTest (eBin opEqF (eCall 2 f__law_draw (aCons (eVar 0) (aCons (eC (.int 4)) aNil))) (eC (.int 0)))) (eCa bTuple (aCons (eVar 7) aNil)) (eVar 7)
@[irreducible] def rwB : Rho → T Out := bSeq (sParLL 7 8 (lLst aNil) (lLst aNil)) (bSeq (sFor (iRg rng1 (aCons (eVar 1) aNil)) (gNm 6) rwIn) (bFreeze 7 (bSeq (sApp 4 rwPut) (bFreeze 8 (sApp 5 (eVar 8))))))
theorem lawrows_drawn_eq : m__law_rows = bSeq (sParLL 4 5 (lLst aNil) (lLst aNil)) (bSeq (sFor (iRg rng1 (aCons (eVar 2) aNil)) (gNm 3) rwB) (bFreeze 4 (bFreeze 5 (sRet (eTup (aCons (eVar 4) (aCons (eVar 5) aNil))))))) := by
  unfold m__law_rows rwB rwIn rwPut nuF
  rfl
section
variable {c h : Nat} {vs ps ds : List D} {rss : List (List Rat)} {rs : List Rat} {x3 x6 x7 x8 x9 x10 : Ent}
abbrev rwR (c h : Nat) (x3 x4 x5 x6 x7 x8 x9 x10 : Ent) : Rho := [.val .pot, nE c, nE h, x3, x4, x5, x6, x7, x8, x9, x10]
theorem NumL.snoc {ds : List D} {rs : List Rat} {d : D} {r : Rat} (h : NumL ds rs) (n : Num d r) : NumL (ds ++ [d]) (rs ++ [r]) := h.app (.cons n .nil)
theorem rwIn_all {x4 x5 : Ent} (n : NumL ds rs) (z : ∀ r ∈ rs, Sz 3 r) (l : ds.length ≤ 100) : (rwIn (rwR c h x3 x4 x5 x6 (.own ds) (.own (rs.map qP)) x9 x10)).all fun o => ∃ d r y9 y10, o = .nx (rwR c h x3 x4 x5 x6 (.own (ds ++ [d])) (.own ((rs ++ [r]).map qP)) y9 y10) ∧ NumL (ds ++ [d]) (rs ++ [r]) ∧ Sz 3 r := by
  unfold rwIn
  refine seq_nx (T.all_bind.mpr (call1_all (all_eq (a := .pot) rfl (T.all_mono (fun d hd => ?_) number_all))))
  obtain ⟨x, q, rfl, nx, sq⟩ := hd
  refine all_eq (a := .nx (rwR c h x3 x4 x5 x6 (.own ds) (.own (rs.map qP)) (.val x) (.val (qP q)))) rfl ⟨_, rfl, ?_⟩
  refine all_eq (a := .nx (rwR c h x3 x4 x5 x6 (.own (ds ++ [x])) (.own ((rs ++ [q]).map qP)) (.val x) (.val (qP q)))) (v_nx (app_val (ds := ds) (d := x) rfl rfl (by omega)) ?_) ⟨x, q, _, _, rfl, n.snoc nx, sq⟩
  rw [List.map_append]
  exact app_val (ds := rs.map qP) (d := qP q) rfl rfl (by rw [List.length_map, ← n.len]; omega)
theorem rw_for {x4 x5 : Ent} : ∀ {n : Nat} {j : Int} {ds : List D} {rs : List Rat} {x6 x9 x10 : Ent}, NumL ds rs → (∀ r ∈ rs, Sz 3 r) → ds.length + n ≤ 100 → (forT (fun d ρ => (gNm 6 d ρ).bind rwIn) (upto j n) (rwR c h x3 x4 x5 x6 (.own ds) (.own (rs.map qP)) x9 x10)).all fun o => ∃ ds' rs' y6 y9 y10, o = .nx (rwR c h x3 x4 x5 y6 (.own ds') (.own (rs'.map qP)) y9 y10) ∧ NumL ds' rs' ∧ (∀ r ∈ rs', Sz 3 r) ∧ ds'.length = ds.length + n
  | 0, j, ds, rs, x6, x9, x10, a, b, l => ⟨ds, rs, x6, x9, x10, rfl, a, b, rfl⟩
  | n + 1, j, ds, rs, x6, x9, x10, a, b, l => by
    refine forT_cons ?_
    show (rwIn (rwR c h x3 x4 x5 (.val (.int j)) (.own ds) (.own (rs.map qP)) x9 x10)).all _
    refine T.all_mono (fun o ho => ?_) (rwIn_all a b (by omega))
    obtain ⟨d, r, y9, y10, rfl, a2, s2⟩ := ho
    refine ⟨_, rfl, T.all_mono (fun o ho => ?_) (rw_for (j := j + 1) a2 (fun q hq => ?_) (by simp; omega))⟩
    · obtain ⟨ds', rs', y6, y9, y10, e, a3, b3, l3⟩ := ho
      exact ⟨ds', rs', y6, y9, y10, e, a3, b3, by rw [l3]; simp; omega⟩
    · rcases List.mem_append.mp hq with z | z
      · exact b q z
      · rw [List.mem_singleton.mp z]
        exact s2
theorem rwPut_all {x4 x5 : Ent} : (rwPut (rwR c h x3 x4 x5 x6 (.val (.lst ds)) x8 x9 x10)).all fun v => SeqOf v ds := by
  unfold rwPut
  refine if_all' (T.all_bind.mpr (bin_all (draw_ct (n := 4) rfl rfl (by decide) (by decide) fun k hk => ?_)))
  refine all_eq (a := .int 0) rfl ?_
  rw [eqI']
  refine all_eq (a := .bl (decide ((k : Int) = 0))) rfl (all_eq (a := decide ((k : Int) = 0)) rfl ?_)
  cases decide ((k : Int) = 0) with
  | true => exact all_eq (a := .tup ds) rfl (.inr rfl)
  | false => exact all_eq (a := .lst ds) rfl (.inl rfl)
theorem rwB_all (R : RwG c vs rss) (lv : vs.length ≤ 100) (hc : c ≤ 3) : (rwB (rwR c h x3 (.own vs) (.own (rss.map prD)) x6 x7 x8 x9 x10)).all fun o => ∃ v rs y6 y7 y8 y9 y10, o = .nx (rwR c h x3 (.own (vs ++ [v])) (.own ((rss ++ [rs]).map prD)) y6 y7 y8 y9 y10) ∧ RwG c (vs ++ [v]) (rss ++ [rs]) := by
  unfold rwB
  refine seq_nx (all_eq (a := .nx (rwR c h x3 (.own vs) (.own (rss.map prD)) x6 (.own []) (.own (([] : List Rat).map qP)) x9 x10)) rfl ⟨_, rfl, ?_⟩)
  refine seq_nx ?_
  have it : iRg rng1 (aCons (eVar 1) aNil) (rwR c h x3 (.own vs) (.own (rss.map prD)) x6 (.own []) (.own (([] : List Rat).map qP)) x9 x10) = .ret (upto 0 c) := rng_val (k := c) rfl (by omega)
  unfold sFor
  refine T.all_bind.mpr (all_eq it (T.all_mono (fun o ho => ?_) (rw_for (n := c) (j := 0) .nil (fun r hr => by cases hr) (by simp; omega))))
  obtain ⟨ds, rs, y6, y9, y10, rfl, a, b, l⟩ := ho
  refine ⟨_, rfl, ?_⟩
  show (bSeq (sApp 4 rwPut) _ (rwR c h x3 (.own vs) (.own (rss.map prD)) y6 (.val (.lst ds)) (.own (rs.map qP)) y9 y10)).all _
  refine seq_nx (app_all (i := 4) (ds := vs) rfl (by omega) (T.all_mono (fun v hv => ?_) rwPut_all))
  refine ⟨_, rfl, ?_⟩
  have R2 : RwG c (vs ++ [v]) (rss ++ [rs]) := by
    refine ⟨R.L.app (.cons hv a (by simpa using l) .nil), fun q hq => ?_⟩
    rcases List.mem_append.mp hq with z | z
    · exact R.sz q z
    · rw [List.mem_singleton.mp z]
      exact b
  show (sApp 5 (eVar 8) (rwR c h x3 (.own (vs ++ [v])) (.own (rss.map prD)) y6 (.val (.lst ds)) (.val (prD rs)) y9 y10)).all _
  refine all_eq (a := .nx (rwR c h x3 (.own (vs ++ [v])) (.own ((rss ++ [rs]).map prD)) y6 (.val (.lst ds)) (.val (prD rs)) y9 y10)) ?_ ⟨v, rs, _, _, _, _, _, rfl, R2⟩
  rw [List.map_append]
  exact app_val (ds := rss.map prD) (d := prD rs) rfl rfl (by rw [List.length_map, ← R.L.len]; omega)
theorem rws_for (hc : c ≤ 3) : ∀ {n : Nat} {j : Int} {vs : List D} {rss : List (List Rat)} {x3 x6 x7 x8 x9 x10 : Ent}, RwG c vs rss → vs.length + n ≤ 100 → (forT (fun d ρ => (gNm 3 d ρ).bind rwB) (upto j n) (rwR c h x3 (.own vs) (.own (rss.map prD)) x6 x7 x8 x9 x10)).all fun o => ∃ vs' rss' y3 y6 y7 y8 y9 y10, o = .nx (rwR c h y3 (.own vs') (.own (rss'.map prD)) y6 y7 y8 y9 y10) ∧ RwG c vs' rss' ∧ vs'.length = vs.length + n
  | 0, j, vs, rss, x3, x6, x7, x8, x9, x10, a, l => ⟨vs, rss, x3, x6, x7, x8, x9, x10, rfl, a, rfl⟩
  | n + 1, j, vs, rss, x3, x6, x7, x8, x9, x10, a, l => by
    refine forT_cons ?_
    show (rwB (rwR c h (.val (.int j)) (.own vs) (.own (rss.map prD)) x6 x7 x8 x9 x10)).all _
    refine T.all_mono (fun o ho => ?_) (rwB_all a (by omega) hc)
    obtain ⟨v, rs, y6, y7, y8, y9, y10, rfl, a2⟩ := ho
    refine ⟨_, rfl, T.all_mono (fun o ho => ?_) (rws_for hc (j := j + 1) a2 (by simp; omega))⟩
    obtain ⟨vs', rss', y3, y6, y7, y8, y9, y10, e, a3, l3⟩ := ho
    exact ⟨vs', rss', y3, y6, y7, y8, y9, y10, e, a3, by rw [l3]; simp; omega⟩
@[irreducible] def rwF' : List D → T D := f__law_rows
theorem rows_drawn (hc : c ≤ 3) (hh : h ≤ 40) : (rwF' [.pot, .int (c : Int), .int (h : Int)]).all fun d => ∃ vs rss, d = .tup [.lst vs, prs rss] ∧ RwG c vs rss ∧ vs.length = h := by
  have pf : rwF' = runB 11 m__law_rows := by unfold rwF'; rfl
  rw [pf]
  refine Pd.A.run (ρ := rwR c h .un .un .un .un .un .un .un .un) rfl ?_
  rw [lawrows_drawn_eq]
  refine seq_nx (all_eq (a := .nx (rwR c h .un (.own []) (.own (([] : List (List Rat)).map prD)) .un .un .un .un .un)) rfl ⟨_, rfl, seq_nx ?_⟩)
  have it : iRg rng1 (aCons (eVar 2) aNil) (rwR c h .un (.own []) (.own (([] : List (List Rat)).map prD)) .un .un .un .un .un) = .ret (upto 0 h) := rng_val (k := h) rfl (by omega)
  unfold sFor
  refine T.all_bind.mpr (all_eq it (T.all_mono (fun o ho => ?_) (rws_for (n := h) (j := 0) hc ⟨.nil, fun r hr => by cases hr⟩ (by simp; omega))))
  obtain ⟨vs, rss, y3, y6, y7, y8, y9, y10, rfl, a, l⟩ := ho
  refine ⟨_, rfl, ?_⟩
  refine all_eq (a := .rt (.tup [.lst vs, prs rss])) ?_ ⟨_, rfl, vs, rss, rfl, a, by simpa using l⟩
  show sRet _ (rwR c h y3 (.val (.lst vs)) (.val (prs rss)) y6 y7 y8 y9 y10) = _
  exact v_ret (tup2 rfl rfl)
end
end Pd
namespace Pd
open PySem L2 PySem.Spec PyProof.Rows
def Vl (h n : Nat) (v : D) : Prop := Fn v ∧ G h n v
theorem Vl.mono {h n h2 n2 : Nat} {v : D} (a : Vl h n v) (b : h ≤ h2) (c : n ≤ n2) : Vl h2 n2 v := ⟨a.1, a.2.mono b c⟩
theorem Vl.lst {h n k : Nat} {ds : List D} (l : ds.length ≤ k) (k2 : k ≤ 1000) (a : ∀ d ∈ ds, Vl h n d) : Vl (h + 1) (k * (n + 2) + 2) (.lst ds) :=
  ⟨.lst (by omega) fun d hd => (a d hd).1, (GT.lst fun d hd => (a d hd).2).mono (Nat.le_refl _) (by have := Nat.mul_le_mul_right (n + 2) l; omega)⟩
theorem Vl.tup {h n k : Nat} {ds : List D} (l : ds.length ≤ k) (k2 : k ≤ 1000) (a : ∀ d ∈ ds, Vl h n d) : Vl (h + 1) (k * (n + 2) + 2) (.tup ds) :=
  ⟨.tup (by omega) fun d hd => (a d hd).1, (GT.tup fun d hd => (a d hd).2).mono (Nat.le_refl _) (by have := Nat.mul_le_mul_right (n + 2) l; omega)⟩
def tops : List Int := [-7, -6, -5, -4, -3, -2, -1, 0, 1, 2, 3, 4, 5, 6, 7]
theorem in_tops {i : Int} (h : i.natAbs < 8) : i ∈ tops := by
  unfold tops
  simp only [List.mem_cons, List.not_mem_nil, or_false]
  omega
theorem g_ratios : (tops.all fun n => ([1, 2, 3, 4, 5, 6, 7] : List Int).all fun d => gB 0 40 (ratio n d)) = true := by decide +kernel
theorem g_ints : (tops.all fun n => gB 0 40 (.int n)) = true := by decide +kernel
theorem int_v {i : Int} (h : i.natAbs < 8) : Vl 0 40 (.int i) := ⟨.int i, gOf (List.all_eq_true.mp g_ints _ (in_tops h))⟩
theorem q_v {q : Rat} (s : Sz 3 q) : Vl 0 40 (qR q) := by
  have a := List.all_eq_true.mp g_ratios _ (in_tops s.num)
  have hd : (q.den : Int) ∈ ([1, 2, 3, 4, 5, 6, 7] : List Int) := by
    have := s.den
    have := q.den_pos
    simp only [List.mem_cons, List.not_mem_nil, or_false]
    omega
  exact ⟨.q q, gOf (List.all_eq_true.mp a _ hd)⟩
theorem num_v {d : D} {r : Rat} (h : Num d r) (s : Sz 3 r) : Vl 0 40 d := by
  cases h with
  | q r => exact q_v s
  | i i =>
    have := s.num
    rw [Rat.num_intCast] at this
    exact int_v this
theorem row_v {c : Nat} {v : D} {ds : List D} {rs : List Rat} (hv : SeqOf v ds) (n : NumL ds rs) (hc : ds.length = c) (c3 : c ≤ 3) (s : ∀ r ∈ rs, Sz 3 r) : Vl 1 128 v := by
  have a : ∀ d ∈ ds, Vl 0 40 d := fun d hd => by
    obtain ⟨r, hr, m⟩ := n.mem d hd
    exact num_v m (s r hr)
  rcases hv with rfl | rfl
  · exact Vl.lst (k := 3) (by omega) (by decide) a
  · exact Vl.tup (k := 3) (by omega) (by decide) a
theorem RowsL.memS {c : Nat} {vs : List D} {rss : List (List Rat)} (h : RowsL c vs rss) : ∀ v ∈ vs, ∃ ds rs, rs ∈ rss ∧ SeqOf v ds ∧ NumL ds rs ∧ ds.length = c := by
  induction h with
  | nil => intro v hv; cases hv
  | cons a b d _ ih =>
    intro v hv
    rcases List.mem_cons.mp hv with z | z
    · subst z; exact ⟨_, _, List.mem_cons_self, a, b, d⟩
    · obtain ⟨ds, rs, m, x⟩ := ih v z
      exact ⟨ds, rs, List.mem_cons_of_mem _ m, x⟩
theorem RwG.v {c : Nat} {vs : List D} {rss : List (List Rat)} (R : RwG c vs rss) (c3 : c ≤ 3) : ∀ v ∈ vs, Vl 1 128 v := fun v hv => by
  obtain ⟨ds, rs, m, a, b, e⟩ := R.L.memS v hv
  exact row_v a b e c3 (R.sz rs m)
section
variable {ρ : Rho} {P Q : D → Prop} {a b m : Rho → T D} {k l h n : Nat}
def Ev (m : Rho → T D) (ρ : Rho) (P : D → Prop) : Prop := ∃ x, m ρ = .ret x ∧ P x
def EvL (m : Rho → T D) (ρ : Rho) (k : Nat) (P : D → Prop) : Prop := ∃ xs, m ρ = .ret (.lst xs) ∧ xs.length ≤ k ∧ ∀ x ∈ xs, P x
def EvA (ms : Rho → T (List D)) (ρ : Rho) (k : Nat) (P : D → Prop) : Prop := ∃ xs, ms ρ = .ret xs ∧ xs.length ≤ k ∧ ∀ x ∈ xs, P x
theorem Ev.imp (h : Ev m ρ P) (f : ∀ x, P x → Q x) : Ev m ρ Q := by
  obtain ⟨x, e, p⟩ := h
  exact ⟨x, e, f x p⟩
theorem EvL.imp (h : EvL m ρ k P) (kl : k ≤ l) (f : ∀ x, P x → Q x) : EvL m ρ l Q := by
  obtain ⟨x, e, s, p⟩ := h
  exact ⟨x, e, by omega, fun y hy => f y (p y hy)⟩
theorem eva_nil : EvA aNil ρ 0 P := ⟨[], rfl, Nat.le_refl _, fun x hx => by cases hx⟩
theorem eva_cons {ms : Rho → T (List D)} (h : Ev m ρ P) (g : EvA ms ρ k P) : EvA (aCons m ms) ρ (k + 1) P := by
  obtain ⟨x, e, p⟩ := h
  obtain ⟨xs, e2, s, p2⟩ := g
  refine ⟨x :: xs, ?_, by simp; exact s, fun y hy => ?_⟩
  · simp only [aCons, e, e2, T.bind]
  · rcases List.mem_cons.mp hy with rfl | z
    · exact p
    · exact p2 y z
theorem eva_lst {ms : Rho → T (List D)} (g : EvA ms ρ k P) (h : k ≤ 1000) : EvA (lLst ms) ρ k P := by
  obtain ⟨xs, e, s, p⟩ := g
  have z : small xs = true := small_of (by omega)
  exact ⟨xs, by simp only [lLst, e, T.bind, z, cond], s, p⟩
theorem evl_lst {ms : Rho → T (List D)} (g : EvA ms ρ k P) (h : k ≤ 1000) : EvL (eL (lLst ms)) ρ k P := by
  obtain ⟨xs, e, s, p⟩ := eva_lst g h
  exact ⟨xs, v_L e, s, p⟩
theorem evl_one (g : Ev m ρ P) : EvL (eL (lLst (aCons m aNil))) ρ 1 P := evl_lst (eva_cons g eva_nil) (by decide)
theorem evl_add (x : EvL a ρ k P) (y : EvL b ρ l P) (h : k + l ≤ 1000) : EvL (eBin opAdd a b) ρ (k + l) P := by
  obtain ⟨xs, e, s, p⟩ := x
  obtain ⟨ys, e2, s2, p2⟩ := y
  exact ⟨xs ++ ys, v_add e e2 (by omega), by simp; omega, fun z hz => by
    rcases List.mem_append.mp hz with q | q
    · exact p z q
    · exact p2 z q⟩
theorem rep_rep (d : D) : ∀ k : Nat, rep k [d] = List.replicate k d
  | 0 => rfl
  | k + 1 => by
    show [d] ++ rep k [d] = _
    rw [rep_rep d k]
    rfl
theorem evl_rep {t : Rho → T D} (x : Ev m ρ P) (ht : t ρ = .ret (.int (k : Int))) (hk : k ≤ 1000) : EvL (eL (lRep (eL (lLst (aCons m aNil))) t)) ρ k P := by
  obtain ⟨d, e, p⟩ := x
  refine ⟨List.replicate k d, ?_, by simp, fun y hy => by rw [List.eq_of_mem_replicate hy]; exact p⟩
  have s : small [d] = true := small_of (by simp)
  have c1 : (decide (0 ≤ (k : Int)) && decide ((k : Int) ≤ 1000) && decide (([d] : List D).length ≤ 100)) = true := by
    rw [Bool.and_eq_true, Bool.and_eq_true, decide_eq_true_iff, decide_eq_true_iff, decide_eq_true_iff]
    exact ⟨⟨by omega, by omega⟩, by simp⟩
  simp only [eL, lRep, lLst, aCons, aNil, e, ht, T.bind, s, cond, asL, c1, Int.toNat_natCast, rep_rep]
theorem evl_v (x : EvL m ρ k (Vl h n)) (hk : k ≤ 1000) : Ev m ρ (Vl (h + 1) (k * (n + 2) + 2)) := by
  obtain ⟨xs, e, s, p⟩ := x
  exact ⟨_, e, Vl.lst s hk p⟩
theorem evl_sl {lo hi : Rho → T (Option Int)} {o p : Option Int} (x : EvL a ρ k P) (hl : lo ρ = .ret o) (hh : hi ρ = .ret p) : EvL (eSl a lo hi) ρ k P := by
  obtain ⟨xs, e, s, q⟩ := x
  refine ⟨cutD xs o p, sl_val e hl hh, ?_, fun y hy => q y ?_⟩
  · unfold cutD
    simp
    omega
  · unfold cutD at hy
    exact List.mem_of_mem_drop (List.mem_of_mem_take hy)
theorem Ev.up {h2 n2 : Nat} (x : Ev m ρ (Vl h n)) (a : h ≤ h2) (b : n ≤ n2) : Ev m ρ (Vl h2 n2) := x.imp fun _ p => p.mono a b
end
abbrev VV : D → Prop := Vl 3 50000
abbrev VR : D → Prop := Vl 2 1000
theorem repr_v {v : D} (h : VV v) : ∃ s, bReprR rRat [v] = .ret (.str s) := by
  obtain ⟨t, e, _⟩ := repr_val h.2 (by decide) (by decide)
  exact ⟨t, e⟩
@[irreducible] def heF : List D → T D := f__law_heard
@[irreducible] def avT : Rho → T Bool := tOr' (eTest (eBin opNA (eCall 2 heF (aCons (eVar 1) (aCons (eVar 5) aNil))) (eIf (eTest (eCall 2 lrF (aCons (eVar 1) (aCons (eVar 5) aNil)))) (eL (lLst (aCons (eC (.str "let")) aNil))) (eL (lLst (aCons (eC (.str "rows")) (aCons (eVar 7) aNil))))))) (eTest (eBin opNA (eCa (bReprR rRat) (aCons (eVar 5) aNil)) (eVar 7)))
@[irreducible] def avB : Rho → T Out := bSeq (sSet 7 (eCa (bReprR rRat) (aCons (eVar 5) aNil))) (sIf avT (sRet (eC (.bl false))) bNil)
section
variable {c : Nat} {v : D} {s : Str} {x2 x3 x4 x5 x6 x7 : Ent}
abbrev avR (c : Nat) (x2 x3 x4 x5 x6 x7 : Ent) : Rho := [.val .pot, nE c, x2, x3, x4, x5, x6, x7]
theorem v_if {t : Rho → T Bool} {a b : Rho → T D} {ρ : Rho} {p : Bool} {x : D} (h : t ρ = .ret p) (h2 : (if p then a else b) ρ = .ret x) : eIf t a b ρ = .ret x := by
  unfold eIf
  rw [h]
  cases p <;> exact h2
theorem avT_val (h : Fn v) (c3 : c ≤ 3) (hs : bReprR rRat [v] = .ret (.str s)) : avT (avR c x2 x3 x4 (.val v) x6 (.val (.str s))) = .ret false := by
  have r : eTest (eCall 2 lrF (aCons (eVar 1) (aCons (eVar 5) aNil))) (avR c x2 x3 x4 (.val v) x6 (.val (.str s))) = .ret (isRows c v) := v_test (v_call2 (x := .int (c : Int)) (y := v) rfl rfl (law_rows_is h))
  have z : eTest (eBin opNA (eCa (bReprR rRat) (aCons (eVar 5) aNil)) (eVar 7)) (avR c x2 x3 x4 (.val v) x6 (.val (.str s))) = .ret false := v_test (v_bin (v_ca (x := v) rfl hs) (y := .str s) rfl (by rw [opNA_str]; simp))
  unfold avT
  refine v_or (v_test ?_) z
  cases e : isRows c v with
  | true =>
    rw [e] at r
    have hh : heF [.int (c : Int), v] = .ret (sD ["let"]) := by
      unfold heF
      exact heard_ok h c3 e
    exact v_bin (v_call2 (x := .int (c : Int)) (y := v) rfl rfl hh) (v_if r (x := sD ["let"]) rfl) (by rw [opNA_strs]; simp)
  | false =>
    rw [e] at r
    have hh : heF [.int (c : Int), v] = .ret (sD ["rows", s]) := by
      unfold heF
      exact heard_ex h c3 e hs
    exact v_bin (v_call2 (x := .int (c : Int)) (y := v) rfl rfl hh) (v_if r (x := sD ["rows", s]) rfl) (by rw [opNA_strs]; simp)
theorem avB_val (h : VV v) (c3 : c ≤ 3) : ∃ y, avB (avR c x2 x3 x4 (.val v) x6 x7) = .ret (.nx (avR c x2 x3 x4 (.val v) x6 y)) := by
  obtain ⟨s, hs⟩ := repr_v h
  refine ⟨.val (.str s), ?_⟩
  unfold avB
  refine v_set (v_ca (x := v) rfl hs) ?_
  have t := avT_val (x2 := x2) (x3 := x3) (x4 := x4) (x6 := x6) h.1 c3 hs
  show (avT (avR c x2 x3 x4 (.val v) x6 (.val (.str s)))).bind _ = _
  rw [t]
  rfl
theorem av_for (c3 : c ≤ 3) : ∀ {ds : List D} {x5 x7 : Ent}, (∀ d ∈ ds, VV d) → ∃ y5 y7, forT (fun d ρ => (gNm 5 d ρ).bind avB) ds (avR c x2 x3 x4 x5 x6 x7) = .ret (.nx (avR c x2 x3 x4 y5 x6 y7))
  | [], x5, x7, _ => ⟨x5, x7, rfl⟩
  | d :: ds, x5, x7, h => by
    obtain ⟨y, e⟩ := avB_val (x2 := x2) (x3 := x3) (x4 := x4) (x6 := x6) (x7 := x7) (h d List.mem_cons_self) c3
    obtain ⟨y5, y7, e2⟩ := av_for c3 (x5 := .val d) (x7 := y) fun q hq => h q (List.mem_cons_of_mem _ hq)
    refine ⟨y5, y7, ?_⟩
    show (avB (avR c x2 x3 x4 (.val d) x6 x7)).bind _ = _
    rw [e]
    exact e2
end
end Pd
namespace Pd
open PySem L2 PySem.Spec PyProof.Rows
@[irreducible] def avOdd : Rho → T D := eL (lLst (aCons (eC .non) (aCons (eC (.bl true)) (aCons (eC (.bl false)) (aCons (eC (.str "1")) (aCons (eL (lLst (aCons (eC (.int 1)) aNil))) (aCons (eTup aNil) (aCons (eC (.dik [])) aNil))))))))
@[irreducible] def avVals : Rho → T (List D) := lLst (aCons (eVar 2) (aCons (eCa bTuple (aCons (eVar 2) aNil)) (aCons (eBin opAdd (eVar 2) (eL (lLst (aCons (eL (lRep (eL (lLst (aCons (eC (.int 0)) aNil))) (eBin opAdd (eVar 1) (eC (.int 1))))) aNil)))) (aCons (eBin opAdd (eVar 2) (eL (lLst (aCons (eVar 3) aNil)))) (aCons (eBin opAdd (eVar 2) (eL (lLst (aCons (eL (lRep (eL (lLst (aCons (eVar 3) aNil))) (eVar 1))) aNil)))) (aCons (eL (lRep (eL (lLst (aCons (eL (lRep (eL (lLst (aCons (eC (.int 1)) aNil))) (eVar 1))) aNil))) (eC (.int 40)))) (aCons (eL (lRep (eL (lLst (aCons (eL (lRep (eL (lLst (aCons (eC (.int 1)) aNil))) (eVar 1))) aNil))) (eC (.int 41)))) (aCons (eL (lLst aNil)) (aCons (eTup aNil) (aCons (eL (lLst (aCons (eL (lLst aNil)) aNil))) (aCons (eL (lLst (aCons (eL (lLst aNil)) (aCons (eL (lLst aNil)) aNil)))) aNil)))))))))))
@[irreducible] def avIf : Rho → T Bool := tAnd' (eTest (eBin opNA (eVar 2) (eL (lLst aNil)))) (eTest (eBin opGt (eVar 1) (eC (.int 0))))
@[irreducible] def avCut : Rho → T D := eSl (eL (lCa bList (aCons (eBin ixD (eVar 2) (eVar 6)) aNil))) oNo (oPart (eUn uNeg (eC (.int 1))))
@[irreducible] def avA1 : Rho → T D := eBin opAdd (eBin opAdd (eSl (eVar 2) oNo (oPart (eVar 6))) (eL (lLst (aCons avCut aNil)))) (eSl (eVar 2) (oPart (eBin opAdd (eVar 6) (eC (.int 1)))) oNo)
@[irreducible] def avA2 : Rho → T D := eBin opAdd (eBin opAdd (eSl (eVar 2) oNo (oPart (eVar 6))) (eL (lLst (aCons (eBin opAdd avCut (eL (lLst (aCons (eVar 3) aNil)))) aNil)))) (eSl (eVar 2) (oPart (eBin opAdd (eVar 6) (eC (.int 1)))) oNo)
@[irreducible] def avMore : Rho → T D := eL (lLst (aCons (eC .non) (aCons (eC (.int 0)) (aCons (eC (.bl true)) (aCons (eC (.str "")) (aCons (eC (.str "1")) (aCons (eC (.dik [])) (aCons (eC (.dik [(0, 1)])) (aCons (eL (lLst (aCons (eC (.int 0)) aNil))) (aCons (eL (lLst (aCons (eC .non) aNil))) (aCons (eL (lLst (aCons (eMake "Ratio" 1 [.int 1] f_Ratio_init (aCons (eC (.int 1)) aNil)) aNil))) (aCons (eMake "Ratio" 1 [.int 1] f_Ratio_init (aCons (eC (.int 1)) aNil)) aNil))))))))))))
@[irreducible] def avMid : Rho → T Out := sIf avIf (bSeq (sSet 6 (eCall 2 f__law_draw (aCons (eVar 0) (aCons (eCa bLen (aCons (eVar 2) aNil)) aNil)))) (bSeq (sApp 4 avA1) (sApp 4 avA2))) bNil
theorem any_eq : m__law_any_right = bSeq (sSet 3 (eCall 2 pkF (aCons (eVar 0) (aCons avOdd aNil)))) (bSeq (sOwn 4 avVals) (bSeq avMid (bFreeze 4 (bSeq (sFor (iLst (eBin opAdd (eVar 4) avMore)) (gNm 5) avB) (sRet (eC (.bl true))))))) := by
  unfold m__law_any_right avOdd avVals avMid avIf avA1 avA2 avCut avMore avB avT lrF heF pkF opNA
  rfl
section
variable {c : Nat} {vs : List D} {rss : List (List Rat)} {odd : D} {x4 x5 x6 x7 : Ent}
theorem ten_g {v : D} (f : Fn v) (h : gB 1 100 v = true) : Vl 1 100 v := ⟨f, gOf h⟩
theorem fn_tnil : Fn (.tup []) := .tup (by simp) fun d hd => by cases hd
theorem fn_one {d : D} (h : Fn d) : Fn (.lst [d]) := .lst (by simp) fun x hx => by rw [List.mem_singleton.mp hx]; exact h
theorem odd_all {ρ : Rho} (hp : ρ[0]? = some (.val .pot)) : (eCall 2 pkF (aCons (eVar 0) (aCons avOdd aNil)) ρ).all fun d => Vl 1 100 d := by
  have e : avOdd ρ = .ret (.lst [.non, .bl true, .bl false, .str "1", .lst [.int 1], .tup [], .dik []]) := by
    unfold avOdd
    rfl
  refine pickE_all hp e (by decide) (by decide) fun d hd => ?_
  simp only [List.mem_cons, List.not_mem_nil, or_false] at hd
  rcases hd with rfl | rfl | rfl | rfl | rfl | rfl | rfl
  · exact ten_g .non (by decide +kernel)
  · exact ten_g (.bl _) (by decide +kernel)
  · exact ten_g (.bl _) (by decide +kernel)
  · exact ten_g (.str _) (by decide +kernel)
  · exact ten_g (fn_one (.int _)) (by decide +kernel)
  · exact ten_g fn_tnil (by decide +kernel)
  · exact ten_g (.dik _) (by decide +kernel)
abbrev anR (c : Nat) (vs : List D) (odd : D) (x4 x5 x6 x7 : Ent) : Rho := [.val .pot, nE c, .val (.lst vs), .val odd, x4, x5, x6, x7]
variable (R : RwG c vs rss) (c3 : c ≤ 3) (l5 : vs.length ≤ 5) (ho : Vl 1 100 odd)
include R c3 l5 in
theorem ev_rows : EvL (eVar 2) (anR c vs odd x4 x5 x6 x7) 5 VR := ⟨vs, rfl, l5, fun v hv => (R.v c3 v hv).mono (by decide) (by decide)⟩
theorem ev_int {i : Int} (h : i.natAbs < 8) {ρ : Rho} : Ev (eC (.int i)) ρ (Vl 0 40) := ⟨_, rfl, int_v h⟩
include ho in
theorem ev_odd : Ev (eVar 3) (anR c vs odd x4 x5 x6 x7) (Vl 1 100) := ⟨odd, rfl, ho⟩
theorem vv_of {ρ : Rho} {m : Rho → T D} {k : Nat} (h : EvL m ρ k VR) (l : k ≤ 41) : Ev m ρ VV := (evl_v h (by omega)).up (by decide) (by have := Nat.mul_le_mul_right (1000 + 2) l; omega)
theorem vr_of {ρ : Rho} {m : Rho → T D} {k : Nat} (h : EvL m ρ k (Vl 1 128)) (l : k ≤ 5) : Ev m ρ VR := (evl_v h (by omega)).up (by decide) (by have := Nat.mul_le_mul_right (128 + 2) l; omega)
theorem ev_lnil {ρ : Rho} {P : D → Prop} : EvL (eL (lLst aNil)) ρ 0 P := evl_lst eva_nil (by decide)
include R c3 l5 ho in
theorem vals_val : ∃ xs, avVals (anR c vs odd x4 x5 x6 x7) = .ret xs ∧ xs.length ≤ 11 ∧ ∀ x ∈ xs, VV x := by
  have a := ev_rows (odd := odd) (x4 := x4) (x5 := x5) (x6 := x6) (x7 := x7) R c3 l5
  have o := ev_odd (c := c) (vs := vs) (odd := odd) (x4 := x4) (x5 := x5) (x6 := x6) (x7 := x7) ho
  have w1 : eBin opAdd (eVar 1) (eC (.int 1)) (anR c vs odd x4 x5 x6 x7) = .ret (.int ((c + 1 : Nat) : Int)) := int_add (i := c) (j := 1) rfl rfl
  have one : Ev (eL (lRep (eL (lLst (aCons (eC (.int 1)) aNil))) (eVar 1))) (anR c vs odd x4 x5 x6 x7) VR := vr_of ((evl_rep (k := c) (ev_int (i := 1) (by decide)) rfl (by omega)).imp (Nat.le_refl _) fun x p => p.mono (by decide) (by decide)) (by omega)
  unfold avVals
  refine eva_lst (k := 11) (eva_cons (vv_of a (by decide)) (eva_cons ?_ (eva_cons ?_ (eva_cons ?_ (eva_cons ?_ (eva_cons ?_ (eva_cons ?_ (eva_cons (vv_of ev_lnil (by decide)) (eva_cons ?_ (eva_cons ?_ (eva_cons ?_ eva_nil))))))))))) (by decide)
  · exact ⟨.tup vs, rfl, (Vl.tup l5 (by decide) fun v hv => R.v c3 v hv).mono (by decide) (by decide)⟩
  · exact vv_of (evl_add a (evl_one (vr_of ((evl_rep (k := c + 1) (ev_int (i := 0) (by decide)) w1 (by omega)).imp (Nat.le_refl _) fun x p => p.mono (by decide) (by decide)) (by omega))) (by decide)) (by decide)
  · exact vv_of (evl_add a (evl_one (o.up (by decide) (by decide))) (by decide)) (by decide)
  · exact vv_of (evl_add a (evl_one (vr_of ((evl_rep (k := c) o rfl (by omega)).imp (Nat.le_refl _) fun x p => p.mono (by decide) (by decide)) (by omega))) (by decide)) (by decide)
  · exact vv_of (evl_rep (k := 40) one rfl (by decide)) (by decide)
  · exact vv_of (evl_rep (k := 41) one rfl (by decide)) (by decide)
  · exact ⟨.tup [], rfl, (ten_g fn_tnil (by decide +kernel)).mono (by decide) (by decide)⟩
  · exact vv_of (evl_one ((evl_v (h := 0) (n := 0) (k := 0) ev_lnil (by decide)).up (by decide) (by decide))) (by decide)
  · exact vv_of (evl_lst (eva_cons ((evl_v (h := 0) (n := 0) (k := 0) ev_lnil (by decide)).up (by decide) (by decide)) (eva_cons ((evl_v (h := 0) (n := 0) (k := 0) ev_lnil (by decide)).up (by decide) (by decide)) eva_nil)) (by decide)) (by decide)
theorem more_val {ρ : Rho} : EvL avMore ρ 11 VV := by
  unfold avMore
  have rat : Ev (eMake "Ratio" 1 [.int 1] f_Ratio_init (aCons (eC (.int 1)) aNil)) ρ (Vl 0 40) := by
    refine ⟨qR 1, ?_, q_v ⟨by decide, by decide⟩⟩
    have mk := init_val (t := 1) (b := 1) (by decide) (by decide)
    have z : D.ins "Ratio" [("_top", .int ((1 : Int).fdiv (ratioBy 1 1))), ("_bottom", .int ((1 : Int).fdiv (ratioBy 1 1)))] = qR 1 := by
      have e : qR (Rat.divInt 1 1) = qR 1 := by rw [int_div1]; rfl
      rw [← e, ← lowR_rat (by decide)]
      rfl
    simp only [eMake, aCons, aNil, eC, List.length_cons, List.length_nil, T.bind, BEq.rfl, cond, List.cons_append, List.nil_append, mk, z]
  have t : ∀ {v : D} {f : Fn v}, gB 1 100 v = true → Ev (eC v) ρ VV := fun {v f} h => ⟨v, rfl, (ten_g f h).mono (by decide) (by decide)⟩
  refine evl_lst (eva_cons (t (f := .non) (by decide +kernel)) (eva_cons (t (f := .int _) (by decide +kernel)) (eva_cons (t (f := .bl _) (by decide +kernel)) (eva_cons (t (f := .str _) (by decide +kernel)) (eva_cons (t (f := .str _) (by decide +kernel)) (eva_cons (t (f := .dik _) (by decide +kernel)) (eva_cons (t (f := .dik _) (by decide +kernel)) (eva_cons ?_ (eva_cons ?_ (eva_cons ?_ (eva_cons ?_ eva_nil))))))))))) (by decide)
  · exact ⟨_, rfl, (ten_g (fn_one (.int _)) (by decide +kernel)).mono (by decide) (by decide)⟩
  · exact ⟨_, rfl, (ten_g (fn_one .non) (by decide +kernel)).mono (by decide) (by decide)⟩
  · exact vv_of (evl_one (rat.up (by decide) (by decide))) (by decide)
  · exact rat.up (by decide) (by decide)
include R c3 l5 in
theorem cut_val {i : Nat} (hi : i < vs.length) : EvL avCut (anR c vs odd x4 x5 (nE i) x7) 3 (Vl 0 40) := by
  have m : vs[i]? = some vs[i] := List.getElem?_eq_getElem hi
  obtain ⟨ds, rs, mm, a, b, e⟩ := R.L.memS vs[i] (List.getElem_mem hi)
  have ix : eBin ixD (eVar 2) (eVar 6) (anR c vs odd x4 x5 (nE i) x7) = .ret vs[i] := v_bin (x := .lst vs) (y := .int (i : Int)) rfl rfl (by
    show ixL vs (.int (i : Int)) = _
    unfold ixL
    dsimp only
    unfold atI
    rw [ixN_nat hi]
    show (match vs[i]? with | some d => T.ret d | none => .fail) = _
    rw [m])
  unfold avCut
  refine evl_sl (o := none) (p := some (-1)) ⟨ds, v_L (ca_seq ix a), by omega, fun d hd => ?_⟩ rfl rfl
  obtain ⟨r, hr, n⟩ := b.mem d hd
  exact num_v n (R.sz rs mm r hr)
include R c3 l5 in
theorem a1_val {i : Nat} (hi : i < vs.length) : Ev avA1 (anR c vs odd x4 x5 (nE i) x7) VV := by
  have a := ev_rows (odd := odd) (x4 := x4) (x5 := x5) (x6 := nE i) (x7 := x7) R c3 l5
  unfold avA1
  exact vv_of (evl_add (evl_add (evl_sl a rfl (part_val (i := i) rfl)) (evl_one (vr_of ((cut_val R c3 l5 hi).imp (Nat.le_refl _) fun x p => p.mono (by decide) (by decide)) (by decide))) (by decide)) (evl_sl a (part_val (i := ((i + 1 : Nat) : Int)) (int_add (i := i) (j := 1) rfl rfl)) rfl) (by decide)) (by decide)
include R c3 l5 ho in
theorem a2_val {i : Nat} (hi : i < vs.length) : Ev avA2 (anR c vs odd x4 x5 (nE i) x7) VV := by
  have a := ev_rows (odd := odd) (x4 := x4) (x5 := x5) (x6 := nE i) (x7 := x7) R c3 l5
  have o := ev_odd (c := c) (vs := vs) (odd := odd) (x4 := x4) (x5 := x5) (x6 := nE i) (x7 := x7) ho
  unfold avA2
  exact vv_of (evl_add (evl_add (evl_sl a rfl (part_val (i := i) rfl)) (evl_one (vr_of (evl_add ((cut_val R c3 l5 hi).imp (Nat.le_refl _) fun x p => p.mono (by decide) (by decide)) (evl_one (o.up (by decide) (by decide))) (by decide)) (by decide))) (by decide)) (evl_sl a (part_val (i := ((i + 1 : Nat) : Int)) (int_add (i := i) (j := 1) rfl rfl)) rfl) (by decide)) (by decide)
include R c3 in
theorem ne_rows : opNA (.lst vs) (.lst []) = .ret (.bl (!vs.isEmpty)) := by
  have b : (isBig (.lst vs) && decide (D.hgt (.lst vs) ≤ 6)) = true := by
    show (true && decide (D.hgts vs + 1 ≤ 6)) = true
    have z : D.hgts vs ≤ 1 := hgt_le fun d hd => by
      obtain ⟨t, _, _, h⟩ := (R.v c3 d hd).2
      exact h
    rw [Bool.true_and, decide_eq_true_iff]
    omega
  have e : D.eqv eAll (.lst vs) (.lst []) = some vs.isEmpty := by
    conv => lhs; unfold D.eqv
    cases vs with
    | nil => rfl
    | cons v vs => rfl
  unfold opNA
  show opEqD true eAll (.lst vs) (.lst []) = _
  unfold opEqD
  rw [b, e]
  show T.ret (D.bl (true ^^ vs.isEmpty)) = _
  rw [Bool.true_xor]
theorem Ev.all {m : Rho → T D} {ρ : Rho} {P : D → Prop} (h : Ev m ρ P) : (m ρ).all P := by
  obtain ⟨x, e, p⟩ := h
  exact all_eq e p
include R c3 l5 ho in
theorem mid_all {xs : List D} (hx : xs.length ≤ 11) (hv : ∀ x ∈ xs, VV x) : (avMid (anR c vs odd (.own xs) x5 x6 x7)).all fun o => ∃ ys x6', o = .nx (anR c vs odd (.own ys) x5 x6' x7) ∧ ys.length ≤ 13 ∧ ∀ y ∈ ys, VV y := by
  have t1 : eTest (eBin opNA (eVar 2) (eL (lLst aNil))) (anR c vs odd (.own xs) x5 x6 x7) = .ret (!vs.isEmpty) := v_test (v_bin (x := .lst vs) (y := .lst []) rfl rfl (ne_rows R c3))
  unfold avMid sIf
  refine T.all_bind.mpr ?_
  cases ve : vs.isEmpty with
  | true =>
    rw [ve] at t1
    refine all_eq (a := false) ?_ ⟨xs, x6, rfl, by omega, hv⟩
    unfold avIf tAnd'
    rw [t1]
    rfl
  | false =>
    rw [ve] at t1
    have pos : 0 < vs.length := by
      cases vs with
      | nil => cases ve
      | cons => simp
    have t2 : avIf (anR c vs odd (.own xs) x5 x6 x7) = .ret (decide (0 < c)) := by
      unfold avIf tAnd'
      rw [t1]
      refine v_test (v_bin (x := .int (c : Int)) (y := .int 0) rfl rfl ?_)
      rw [gtI]
      congr 2
      exact decide_eq_decide.mpr (by omega)
    refine all_eq t2 ?_
    cases decide (0 < c) with
    | false => exact ⟨xs, x6, rfl, by omega, hv⟩
    | true =>
      refine Pd.A.set (draw_ct (n := vs.length) rfl rfl pos (by omega) fun i hi => ?_)
      show ((bSeq (sApp 4 avA1) (sApp 4 avA2)) (anR c vs odd (.own xs) x5 (nE i) x7)).all _
      refine seq_nx (app_all (i := 4) (ds := xs) rfl (by omega) (T.all_mono (fun d hd => ⟨_, rfl, ?_⟩) (a1_val R c3 l5 hi).all))
      show (sApp 4 avA2 (anR c vs odd (.own (xs ++ [d])) x5 (nE i) x7)).all _
      refine app_all (i := 4) (ds := xs ++ [d]) rfl (by simp; omega) (T.all_mono (fun e he => ⟨xs ++ [d] ++ [e], nE i, rfl, by simp; omega, fun y hy => ?_⟩) (a2_val R c3 l5 ho hi).all)
      rcases List.mem_append.mp hy with z | z
      · rcases List.mem_append.mp z with z | z
        · exact hv y z
        · rw [List.mem_singleton.mp z]; exact hd
      · rw [List.mem_singleton.mp z]; exact he
@[irreducible] def anF : List D → T D := f__law_any_right
include R c3 l5 in
theorem any_all : (anF [.pot, .int (c : Int), .lst vs]).all fun d => d = .bl true := by
  have pf : anF = runB 8 m__law_any_right := by unfold anF; rfl
  rw [pf]
  refine Pd.A.run (ρ := [.val .pot, nE c, .val (.lst vs), .un, .un, .un, .un, .un]) rfl ?_
  rw [any_eq]
  refine Pd.A.set (T.all_mono (fun o ho => ?_) (odd_all (ρ := [.val .pot, nE c, .val (.lst vs), .un, .un, .un, .un, .un]) rfl))
  show ((bSeq (sOwn 4 avVals) _) (anR c vs o .un .un .un .un)).all _
  obtain ⟨xs, e, lx, hx⟩ := vals_val (x4 := .un) (x5 := .un) (x6 := .un) (x7 := .un) R c3 l5 ho
  refine seq_nx (all_eq (v_own e) ⟨_, rfl, ?_⟩)
  show ((bSeq avMid _) (anR c vs o (.own xs) .un .un .un)).all _
  refine seq_nx (T.all_mono (fun p hp => ?_) (mid_all R c3 l5 ho lx hx))
  obtain ⟨ys, x6', rfl, ly, hy⟩ := hp
  refine ⟨_, rfl, ?_⟩
  show ((bSeq (sFor (iLst (eBin opAdd (eVar 4) avMore)) (gNm 5) avB) (sRet (eC (.bl true)))) (anR c vs o (.val (.lst ys)) .un x6' .un)).all _
  obtain ⟨zs, ez, lz, hz⟩ := more_val (ρ := anR c vs o (.val (.lst ys)) .un x6' .un)
  obtain ⟨y5, y7, f⟩ := av_for (c := c) (x2 := .val (.lst vs)) (x3 := .val o) (x4 := .val (.lst ys)) (x5 := .un) (x6 := x6') (x7 := .un) c3 (ds := ys ++ zs) fun d hd => by
    rcases List.mem_append.mp hd with q | q
    · exact hy d q
    · exact hz d q
  have it : iLst (eBin opAdd (eVar 4) avMore) (anR c vs o (.val (.lst ys)) .un x6' .un) = .ret (ys ++ zs) := it_lst (v_add (xs := ys) rfl ez (by omega))
  have g : sFor (iLst (eBin opAdd (eVar 4) avMore)) (gNm 5) avB (anR c vs o (.val (.lst ys)) .un x6' .un) = .ret (.nx (anR c vs o (.val (.lst ys)) y5 x6' y7)) := by
    unfold sFor
    rw [it]
    exact f
  exact all_eq (a := .rt (.bl true)) (v_nx g rfl) ⟨_, rfl, rfl⟩
end
end Pd
namespace Pd
open PySem L2 PySem.Spec PyProof.Rows
section
variable {c : Nat} {rss qss : List (List Rat)} {ρ : Rho}
def rowsL (rss : List (List Rat)) : List (List D) := rss.map fun rs => rs.map qR
theorem compLL_step {g : D → Rho → T Rho} {me : Rho → T (List D)} {S : Rho} {x : D} {ys : List D} {vs : List D} {acc : List (List D)} (hg : g x ρ = .ret S) (hm : me S = .ret ys) (l : acc.length ≤ 100000) : compLL g yesT me ρ (x :: vs) acc = compLL g yesT me ρ vs (acc ++ [ys]) := by
  have s : decide (acc.length ≤ 100000) = true := decide_eq_true l
  have e : compLL g yesT me ρ (x :: vs) acc = (g x ρ).bind fun ρ2 => (me ρ2).bind fun ys => cond (decide (acc.length ≤ 100000)) (compLL g yesT me ρ vs (acc ++ [ys])) .fail := rfl
  rw [e, hg, s, T.bind, hm]
  rfl
theorem compLL_rows {i : Nat} {me : Rho → T (List D)} (hm : ∀ v ds rs, SeqOf v ds → NumL ds rs → ds.length = c → me (ρ.set i (.val v)) = .ret (rs.map qR)) : ∀ {vs : List D} {rss : List (List Rat)} {acc : List (List D)}, RowsL c vs rss → acc.length + vs.length ≤ 100000 → compLL (gNm i) yesT me ρ vs acc = .ret (acc ++ rowsL rss)
  | [], _, acc, .nil, _ => by unfold compLL rowsL; simp
  | v :: vs, rs :: rss, acc, .cons a b d t, hl => by
    rw [List.length_cons] at hl
    rw [compLL_step (S := ρ.set i (.val v)) rfl (hm v _ rs a b d) (by omega), compLL_rows hm t (by simp; omega)]
    unfold rowsL
    simp
@[irreducible] def f2Rows : Rho → T (List (List D)) := lCompLL [3] (iSq 2) (gNm 3) yesT (lComp [4] (iSq 3) (gNm 4) yesT (eCall 1 f_as_ratio (aCons (eVar 4) aNil)))
theorem f2Rows_val {v : D} {vs : List D} (hv : SeqOf v vs) (h : RowsL c vs rss) (h3 : c ≤ 3) (h40 : vs.length ≤ 40) : f2Rows [.un, .val (.int (c : Int)), .val v, .un, .un] = .ret (rowsL rss) := by
  have inner : ∀ v2 ds rs, SeqOf v2 ds → NumL ds rs → ds.length = c → lComp [4] (iSq 3) (gNm 4) yesT (eCall 1 f_as_ratio (aCons (eVar 4) aNil)) [.un, .val (.int (c : Int)), .val v, .val v2, .un] = .ret (rs.map qR) := fun v2 ds rs a b e => by
    have q := a.sq (ρ := [.un, .val (.int (c : Int)), .val v, .val v2, .un]) (i := 3) rfl
    unfold lComp
    rw [q]
    show compT (gNm 4) yesT _ [.un, .val (.int (c : Int)), .val v, .val v2, .un] ds [] = _
    rw [compT_num (fun d r n => ?_) b (by simp; omega)]
    · rfl
    · show (cond (1 == 1) (f_as_ratio [d]) .fail) = _
      exact as_ratio_val n
  have q := hv.sq (ρ := [.un, .val (.int (c : Int)), .val v, .un, .un]) (i := 2) rfl
  unfold f2Rows lCompLL
  rw [q]
  show compLL (gNm 3) yesT _ [.un, .val (.int (c : Int)), .val v, .un, .un] vs [] = _
  rw [compLL_rows (c := c) (fun v ds rs a b e => inner v ds rs a b e) h (by simp; omega)]
  rfl
@[irreducible] def f2Flds : MIL := iFldL "_columns" (eVar 1) (iLast "_rows" f2Rows)
theorem f2Flds_val {v : D} {vs : List D} (hv : SeqOf v vs) (h : RowsL c vs rss) (h3 : c ≤ 3) (h40 : vs.length ≤ 40) : f2Flds [.un, .val (.int (c : Int)), .val v, .un, .un] [] = .ret ([("_columns", .int (c : Int))], rowsL rss) := by
  have f1 : fieldD "_columns" [] = none := rfl
  have f2 : fieldD "_rows" [("_columns", D.int (c : Int))] = none := by
    unfold fieldD
    rw [nCol]
    rfl
  have d1 : decide (([] : List (Str × D)).length < 100) = true := rfl
  have d2 : decide (([("_columns", D.int (c : Int))] : List (Str × D)).length < 100) = true := rfl
  unfold f2Flds
  simp only [iFldL, iLast, eVar, List.getElem?_cons_succ, List.getElem?_cons_zero, T.bind, cond, f1, Option.isNone_none, d1, Bool.and_self, List.nil_append, f2, d2, f2Rows_val hv h h3 h40]
theorem init2_eq : m2_Table_init = iChkL (eCall 1 f_need_columns (aCons (eVar 1) aNil)) (iIfL arT f2Flds) := by
  unfold m2_Table_init arT arF f2Flds f2Rows
  rfl
@[irreducible] def t2F : List D → T FL := f2_Table_init
theorem table2_val {v : D} {vs : List D} (hv : SeqOf v vs) (h : RowsL c vs rss) (h3 : c ≤ 3) (h40 : vs.length ≤ 40) : t2F [.int (c : Int), v] = .ret ([("_columns", .int (c : Int))], rowsL rss) := by
  have ar := arT_is (c := c) (h.fn hv h3 h40)
  rw [isRows_of hv h h40] at ar
  unfold t2F
  show m2_Table_init [.un, .val (.int (c : Int)), .val v, .un, .un] [] = _
  rw [init2_eq]
  simp only [iChkL, iIfL, eCall, aCons, aNil, eVar, List.length_cons, List.length_nil, List.getElem?_cons_succ, List.getElem?_cons_zero, T.bind, BEq.rfl, cond, columns_val c h3, ar, Bool.not_true, f2Flds_val hv h h3 h40]
@[irreducible] def r2F : List D → T (List (List D)) := f2_Table_rows
theorem rows2_val (h : TbOk c rss) : r2F [tabD c rss] = .ret (rowsL rss) := by
  have l := h.l40
  have it : iLst (eUn (attrD "Table" "_rows") (eVar 0)) [tE c rss, .un] = .ret (rss.map rowD) := it_lst (v_un (x := tabD c rss) rfl (rows_attr c rss))
  unfold r2F
  show lCompLL [1] (iLst (eUn (attrD "Table" "_rows") (eVar 0))) (gNm 1) yesT (lCa bList (aCons (eVar 1) aNil)) [tE c rss, .un] = _
  unfold lCompLL
  rw [it]
  show compLL (gNm 1) yesT _ [tE c rss, .un] (rss.map rowD) [] = _
  have e : ∀ {qs : List (List Rat)} {acc : List (List D)}, acc.length + qs.length ≤ 1000 → compLL (gNm 1) yesT (lCa bList (aCons (eVar 1) aNil)) [tE c rss, .un] (qs.map rowD) acc = .ret (acc ++ rowsL qs) := fun {qs} => by
    induction qs with
    | nil => intro acc _; unfold rowsL; simp [compLL]
    | cons q qs ih =>
      intro acc la
      rw [List.length_cons] at la
      rw [List.map_cons, compLL_step (S := [tE c rss, .val (rowD q)]) (ys := q.map qR) rfl (ca_list (ds := q.map qR) rfl) (by omega), ih (by simp; omega)]
      unfold rowsL
      simp
  exact e (by simp; omega)
theorem m_rows2 {m : Rho → T D} (h : TbOk c rss) (hm : m ρ = .ret (tabD c rss)) : llMeth "Table" "rows" r2F m ρ = .ret (rowsL rss) := by
  simp only [llMeth, hm, T.bind, insD_tab, rows2_val h]
theorem noL_q (q : Rat) : D.noL (qR q) = true := rfl
theorem noL_qs : ∀ rs : List Rat, D.noLs (rs.map qR) = true
  | [] => rfl
  | q :: rs => by
    show (D.noL (qR q) && D.noLs (rs.map qR)) = true
    rw [noL_q, noL_qs rs]
    rfl
theorem noL_rows : ((rowsL rss).all D.noLs) = true := by
  unfold rowsL
  rw [List.all_map, List.all_eq_true]
  exact fun rs _ => noL_qs rs
theorem eqv_qP (F : D → D → Option Bool) (p q : Rat) : D.eqv F (qP p) (qP q) = some (decide (p = q)) := by
  have e : D.eqv F (qP p) (qP q) = D.eqvs F [.int p.num, .int (p.den : Int)] [.int q.num, .int (q.den : Int)] := by
    unfold qP
    conv => lhs; unfold D.eqv
  have z : D.eqvs F [] [] = some true := by simp [D.eqvs]
  have i : ∀ a b : Int, D.eqv F (.int a) (.int b) = some (decide (a = b)) := fun a b => by
    unfold D.eqv
    rfl
  rw [e, eqvs_two (i _ _) (eqvs_two (i _ _) z), Bool.and_true, Option.some.injEq, ← Bool.decide_and]
  exact decide_eq_decide.mpr ⟨fun z => Rat.ext z.1 (by omega), fun z => by rw [z]; exact ⟨rfl, rfl⟩⟩
theorem eqv_prD (F : D → D → Option Bool) (p q : List Rat) : D.eqv F (prD p) (prD q) = some (decide (p = q)) := by
  unfold prD
  conv => lhs; unfold D.eqv
  exact eqvs_map (eqv_qP F) p q
theorem eqv_prs (F : D → D → Option Bool) (p q : List (List Rat)) : D.eqv F (prs p) (prs q) = some (decide (p = q)) := by
  unfold prs
  conv => lhs; unfold D.eqv
  exact eqvs_map (eqv_prD F) p q
theorem hgt_qPs : ∀ rs : List Rat, D.hgts (rs.map qP) ≤ 1 := fun rs => hgt_le fun d hd => by
  obtain ⟨q, _, rfl⟩ := List.mem_map.mp hd
  exact Nat.le_refl 1
theorem opEA_prs (p q : List (List Rat)) : opEA (prs p) (prs q) = .ret (.bl (decide (p = q))) := by
  have z : D.hgts (p.map prD) ≤ 2 := hgt_le fun d hd => by
    obtain ⟨r, _, rfl⟩ := List.mem_map.mp hd
    exact Nat.succ_le_succ (hgt_qPs r)
  have b : (isBig (prs p) && decide (D.hgt (prs p) ≤ 6)) = true := by
    show (true && decide (D.hgts (p.map prD) + 1 ≤ 6)) = true
    rw [Bool.true_and, decide_eq_true_iff]
    omega
  unfold opEA
  show opEqD false eAll (prs p) (prs q) = _
  unfold opEqD
  rw [b, eqv_prs]
  show T.ret (D.bl (false ^^ decide (p = q))) = _
  rw [Bool.false_xor]
end
end Pd
namespace Pd
open PySem L2 PySem.Spec PyProof.Rows
@[irreducible] def tiF : List D → T (List (Str × D)) := f_Table_init
theorem ti_val {c : Nat} {v : D} {vs : List D} {rss : List (List Rat)} (hv : SeqOf v vs) (h : RowsL c vs rss) (h3 : c ≤ 3) (h40 : vs.length ≤ 40) : tiF [.int (c : Int), v] = .ret (tabF c rss) := by
  unfold tiF
  exact table_val hv h h3 h40
@[irreducible] def lwMake : Rho → T D := eMake "Table" 2 [] tiF (aCons (eVar 2) (aCons (eIf (eTest (eBin opEA (eCall 2 f__law_draw (aCons (eVar 1) (aCons (eC (.int 2)) aNil))) (eC (.int 0)))) (eVar 7) (eCa bTuple (aCons (eVar 7) aNil))) aNil))
@[irreducible] def lwOther : Rho → T D := eMakeK "Table" 2 [1, 0] tiF (aCons (eVar 9) (aCons (eVar 2) aNil))
@[irreducible] def lwLend : Rho → T Out := sLend 4 5 6 "Table" "_rows" t2F (lCompLL [6] (iLst (eVar 7)) (gNm 6) yesT (lCa bList (aCons (eVar 6) aNil))) (eVar 2)
@[irreducible] def lwT1 : Rho → T Bool := tNot' (eTest (eCall 3 isF (aCons (eVar 5) (aCons (eVar 2) (aCons (eVar 8) aNil)))))
@[irreducible] def lwT2 : Rho → T Bool := tOr' (tNot' (eTest (eCall 3 isF (aCons (eVar 12) (aCons (eVar 2) (aCons (eVar 8) aNil)))))) (tOr' (eTest (eBin opNA (eCa (bReprR rRat) (aCons (eVar 7) aNil)) (eVar 11))) (tOr' (tNot' (eTest (eCall 3 isF (aCons (eCall 2 joF (aCons (eVar 12) (aCons (eVar 3) aNil))) (aCons (eVar 2) (aCons (eBin opAdd (eVar 8) (eVar 10)) aNil)))))) (tNot' (eTest (eCall 3 isF (aCons (eCall 1 tuF (aCons (eVar 12) aNil)) (aCons (eVar 2) (aCons (eL (lRev (eVar 8))) aNil))))))))
@[irreducible] def lwT3 : Rho → T Bool := tOr' (tNot' (eTest (eBin opEA (eCall 1 tuF (aCons (eCall 1 tuF (aCons (eVar 12) aNil)) aNil)) (eVar 12)))) (tNot' (eTest (eBin opEA (eCall 1 tuF (aCons (eCall 2 joF (aCons (eVar 12) (aCons (eVar 3) aNil))) aNil)) (eCall 2 joF (aCons (eCall 1 tuF (aCons (eVar 3) aNil)) (aCons (eCall 1 tuF (aCons (eVar 12) aNil)) aNil))))))
@[irreducible] def lwS1 : Rho → T Out := sSpoil 6 (llMeth "Table" "rows" r2F (eVar 12))
@[irreducible] def lwS2 : Rho → T Out := sSpoilE (llMeth "Table" "rows" r2F (eVar 12)) (eL (lLst aNil))
@[irreducible] def lwAnew : Rho → T D := eL (lComp [6] (iLst (eVar 8)) (gNm 6) yesT (eL (lComp [13] (iLst (eVar 6)) (gNm 13) yesT (eMake "Ratio" 2 [] f_Ratio_init (aCons (eBin ixD (eVar 13) (eC (.int 0))) (aCons (eBin ixD (eVar 13) (eC (.int 1))) aNil))))))
@[irreducible] def lwT4 : Rho → T Bool := tOr' (tNot' (eTest (eCall 3 isF (aCons (eVar 12) (aCons (eVar 2) (aCons (eVar 8) aNil)))))) (tNot' (eTest (eBin opEA (eVar 12) (eMake "Table" 2 [] tiF (aCons (eVar 2) (aCons lwAnew aNil))))))
@[irreducible] def lwEmp : Rho → T D := eMake "Table" 2 [] tiF (aCons (eBin opMod (eBin opAdd (eVar 2) (eC (.int 1))) (eC (.int 4))) (aCons (eL (lLst aNil)) aNil))
@[irreducible] def lwR1 : Rho → T D := eL (lLst (aCons (eBin cmT (eVar 12) (eVar 3)) (aCons (eBin cmL (eVar 12) (eVar 7)) (aCons (eBin cmT (eVar 12) lwEmp) aNil))))
@[irreducible] def lwR2 : Rho → T D := eL (lLst (aCons (eBin opEA (eVar 8) (eVar 10)) (aCons (eC (.bl false)) (aCons (eC (.bl false)) aNil))))
@[irreducible] def lwT5 : Rho → T Bool := eTest (eBin opNA (eCa (bReprR rRat) (aCons lwR1 aNil)) (eCa (bReprR rRat) (aCons lwR2 aNil)))
@[irreducible] def lwT6 : Rho → T Bool := tOr' (tNot' (eTest (eCall 4 prF (aCons (eVar 1) (aCons (eVar 12) (aCons (eVar 2) (aCons (eVar 8) aNil))))))) (tNot' (eTest (eCall 6 rwRF (aCons (eVar 1) (aCons (eVar 12) (aCons (eVar 2) (aCons (eVar 8) (aCons (eBin ixD (eVar 13) (eC (.int 0))) (aCons (eBin ixD (eVar 14) (eC (.int 0))) aNil)))))))))
@[irreducible] def lwEnd : Rho → T D := eCall 3 anF (aCons (eVar 1) (aCons (eVar 2) (aCons (eVar 7) aNil)))
@[irreducible] def lwD1 : Rho → T Out := sAsg (gTp 2 (gsCons (gNm 7) (gsCons (gNm 8) gsNil))) (eCall 3 rwF' (aCons (eVar 1) (aCons (eVar 2) (aCons (eCall 2 f__law_draw (aCons (eVar 1) (aCons (eC (.int 6)) aNil))) aNil))))
@[irreducible] def lwD2 : Rho → T Out := sAsg (gTp 2 (gsCons (gNm 9) (gsCons (gNm 10) gsNil))) (eCall 3 rwF' (aCons (eVar 1) (aCons (eVar 2) (aCons (eCall 2 f__law_draw (aCons (eVar 1) (aCons (eC (.int 5)) aNil))) aNil))))
@[irreducible] def lwD3 : Rho → T Out := sAsg (gTp 2 (gsCons (gNm 13) (gsCons (gNm 14) gsNil))) (eCall 3 rwF' (aCons (eVar 1) (aCons (eVar 2) (aCons (eC (.int 1)) aNil))))
@[irreducible] def lwSix : Rho → T Out := bSeq (sIf lwT5 (sRet (eC (.bl false))) bNil) (bSeq lwD3 (bSeq (sIf lwT6 (sRet (eC (.bl false))) bNil) (sRet lwEnd)))
@[irreducible] def lwFour : Rho → T Out := bSeq (sIf lwT1 (sRet (eC (.bl false))) bNil) (bSeq (sIf lwT2 (sRet (eC (.bl false))) bNil) (bSeq (sIf lwT3 (sRet (eC (.bl false))) bNil) (bSeq lwS1 (bSeq lwS2 (bSeq (sIf lwT4 (sRet (eC (.bl false))) bNil) lwSix)))))
theorem law_eq : m_law = bSeq (sSet 2 (eCall 2 f__law_draw (aCons (eVar 1) (aCons (eC (.int 4)) aNil)))) (bSeq lwD1 (bSeq lwD2 (bSeq (sPar 11 12 (eCa (bReprR rRat) (aCons (eVar 7) aNil)) lwMake) (bSeq (sSet 3 lwOther) (bSeq lwLend lwFour))))) := by
  unfold m_law lwD1 lwD2 lwMake lwOther lwLend lwFour lwT1 lwT2 lwT3 lwS1 lwS2 lwT4 lwAnew lwSix lwT5 lwR1 lwR2 lwEmp lwD3 lwT6 lwEnd rwF' isF joF tuF t2F r2F prF rwRF anF cmT cmL teF opEA opNA tiF
  rfl
abbrev lE (vs : List D) : Ent := .val (.lst vs)
abbrev pE' (rss : List (List Rat)) : Ent := .val (prs rss)
section
variable {c : Nat} {vs ws : List D} {rss qss : List (List Rat)} {x0 x2 x3 x4 x5 x6 x7 x8 x9 x10 x11 x12 x13 x14 : Ent} {s : Str}
abbrev lwR (c : Nat) (x0 x3 x4 x5 x6 x7 x8 x9 x10 x11 x12 x13 x14 : Ent) : Rho := [x0, .val .pot, nE c, x3, x4, x5, x6, x7, x8, x9, x10, x11, x12, x13, x14]
theorem draw_1 {ρ : Rho} {n : Nat} {m : Rho → T D} (hp : ρ[1]? = some (.val .pot)) (e : m ρ = .ret (.int (n : Int))) (h0 : 0 < n) (h1 : n ≤ 1000) {P : D → Prop} (h : ∀ k : Nat, k < n → P (.int (k : Int))) : (eCall 2 f__law_draw (aCons (eVar 1) (aCons m aNil)) ρ).all P := by
  have dr := drawE (ρ := ρ) (i := 1) (n := n) (m := m) hp e h0 (by omega)
  exact all_dr dr h
theorem RwG.w (R : RwG c vs rss) : ∀ rs ∈ rss, rs.length = c := by
  have h := R.L
  clear R
  induction h with
  | nil => intro rs hrs; cases hrs
  | cons a b d _ ih =>
    intro rs hrs
    rcases List.mem_cons.mp hrs with z | z
    · subst z
      rw [← b.len]
      exact d
    · exact ih rs z
theorem RwG.tb (R : RwG c vs rss) (c3 : c ≤ 3) (l : vs.length ≤ 40) : TbOk c rss := ⟨c3, by rw [← R.L.len]; exact l, R.w⟩
theorem D1_all (c3 : c ≤ 3) : (lwD1 (lwR c x0 x3 x4 x5 x6 x7 x8 x9 x10 x11 x12 x13 x14)).all fun o => ∃ vs rss, o = .nx (lwR c x0 x3 x4 x5 x6 (lE vs) (pE' rss) x9 x10 x11 x12 x13 x14) ∧ RwG c vs rss ∧ vs.length ≤ 5 := by
  unfold lwD1
  refine T.all_bind.mpr (call3_all (all_eq (a := .pot) rfl (all_eq (a := .int (c : Int)) rfl (draw_1 (n := 6) rfl rfl (by decide) (by decide) fun h hh => T.all_mono (fun d hd => ?_) (rows_drawn (h := h) c3 (by omega))))))
  obtain ⟨vs, rss, rfl, R, l⟩ := hd
  exact all_eq (a := .nx (lwR c x0 x3 x4 x5 x6 (lE vs) (pE' rss) x9 x10 x11 x12 x13 x14)) rfl ⟨vs, rss, rfl, R, by omega⟩
theorem D2_all (c3 : c ≤ 3) : (lwD2 (lwR c x0 x3 x4 x5 x6 x7 x8 x9 x10 x11 x12 x13 x14)).all fun o => ∃ vs rss, o = .nx (lwR c x0 x3 x4 x5 x6 x7 x8 (lE vs) (pE' rss) x11 x12 x13 x14) ∧ RwG c vs rss ∧ vs.length ≤ 5 := by
  unfold lwD2
  refine T.all_bind.mpr (call3_all (all_eq (a := .pot) rfl (all_eq (a := .int (c : Int)) rfl (draw_1 (n := 5) rfl rfl (by decide) (by decide) fun h hh => T.all_mono (fun d hd => ?_) (rows_drawn (h := h) c3 (by omega))))))
  obtain ⟨vs, rss, rfl, R, l⟩ := hd
  exact all_eq (a := .nx (lwR c x0 x3 x4 x5 x6 x7 x8 (lE vs) (pE' rss) x11 x12 x13 x14)) rfl ⟨vs, rss, rfl, R, by omega⟩
theorem D3_all (c3 : c ≤ 3) : (lwD3 (lwR c x0 x3 x4 x5 x6 x7 x8 x9 x10 x11 x12 x13 x14)).all fun o => ∃ v rs ds, o = .nx (lwR c x0 x3 x4 x5 x6 x7 x8 x9 x10 x11 x12 (lE [v]) (pE' [rs])) ∧ SeqOf v ds ∧ NumL ds rs ∧ ds.length = c := by
  unfold lwD3
  refine T.all_bind.mpr (call3_all (all_eq (a := .pot) rfl (all_eq (a := .int (c : Int)) rfl (all_eq (a := .int ((1 : Nat) : Int)) rfl (T.all_mono (fun d hd => ?_) (rows_drawn (h := 1) c3 (by decide)))))))
  obtain ⟨vs, rss, rfl, R, l⟩ := hd
  have h := R.L
  cases h with
  | nil => cases l
  | cons a b d t =>
    cases t with
    | cons _ _ _ _ => simp at l
    | nil => exact all_eq (a := .nx (lwR c x0 x3 x4 x5 x6 x7 x8 x9 x10 x11 x12 (lE [_]) (pE' [_]))) rfl ⟨_, _, _, rfl, a, b, d⟩
theorem opEA_int0 (k : Nat) : opEA (.int (k : Int)) (.int 0) = .ret (.bl (decide ((k : Int) = 0))) := opEA_int _ _
theorem make_all (R : RwG c vs rss) (c3 : c ≤ 3) (l : vs.length ≤ 40) : (lwMake (lwR c x0 x3 x4 x5 x6 (lE vs) x8 x9 x10 x11 x12 x13 x14)).all fun d => d = tabD c rss := by
  have arg : (eIf (eTest (eBin opEA (eCall 2 f__law_draw (aCons (eVar 1) (aCons (eC (.int 2)) aNil))) (eC (.int 0)))) (eVar 7) (eCa bTuple (aCons (eVar 7) aNil)) (lwR c x0 x3 x4 x5 x6 (lE vs) x8 x9 x10 x11 x12 x13 x14)).all fun v => SeqOf v vs := by
    refine if_all' (T.all_bind.mpr (bin_all (draw_1 (n := 2) rfl rfl (by decide) (by decide) fun k hk => all_eq (a := .int 0) rfl ?_)))
    rw [opEA_int0]
    refine all_eq (a := .bl (decide ((k : Int) = 0))) rfl (all_eq (a := decide ((k : Int) = 0)) rfl ?_)
    cases decide ((k : Int) = 0) with
    | true => exact all_eq (a := .lst vs) rfl (.inl rfl)
    | false => exact all_eq (a := .tup vs) rfl (.inr rfl)
  unfold lwMake
  show ((T.bind ((eVar 2 _).bind fun d => (aCons _ aNil _).bind fun ds => T.ret (d :: ds)) _)).all _
  refine T.all_bind.mpr (T.all_bind.mpr (all_eq (a := .int (c : Int)) rfl (T.all_bind.mpr (T.all_bind.mpr (T.all_mono (fun v hv => ?_) arg)))))
  refine all_eq (a := [v]) rfl (all_eq (a := [.int (c : Int), v]) rfl ?_)
  refine all_eq (a := tabD c rss) ?_ rfl
  show ((tiF [.int (c : Int), v]).bind _) = _
  rw [ti_val hv R.L c3 l]
  rfl
theorem other_val (R : RwG c ws qss) (c3 : c ≤ 3) (l : ws.length ≤ 40) : lwOther (lwR c x0 x3 x4 x5 x6 x7 x8 (lE ws) x10 x11 x12 x13 x14) = .ret (tabD c qss) := by
  unfold lwOther
  show ((tiF [.int (c : Int), .lst ws]).bind _) = _
  rw [ti_val (.inl rfl) R.L c3 l]
  rfl
theorem RowsL.els : ∀ {vs : List D} {rss : List (List Rat)}, RowsL c vs rss → ∃ dss : List (List D), dss.length = vs.length ∧ RowsL c (dss.map D.lst) rss ∧ (∀ ds ∈ dss, ds.length = c) ∧ ∀ (ρ : Rho) (acc : List (List D)), acc.length + vs.length ≤ 1000 → compLL (gNm 6) yesT (lCa bList (aCons (eVar 6) aNil)) (lwR c x0 x3 x4 x5 .un x7 x8 x9 x10 x11 x12 x13 x14) vs acc = .ret (acc ++ dss)
  | [], _, .nil => ⟨[], rfl, .nil, fun ds hds => by simp at hds, fun ρ acc _ => by unfold compLL; simp⟩
  | v :: vs, rs :: rss, .cons a b d t => by
    obtain ⟨dss, l, R, w, e⟩ := RowsL.els t
    refine ⟨_ :: dss, by simp; exact l, .cons (.inl rfl) b d R, fun ds hds => ?_, fun ρ acc la => ?_⟩
    · rcases List.mem_cons.mp hds with rfl | z
      · exact d
      · exact w ds z
    · rw [List.length_cons] at la
      rw [compLL_step (S := lwR c x0 x3 x4 x5 (.val v) x7 x8 x9 x10 x11 x12 x13 x14) rfl (ca_seq rfl a) (by omega), e ρ _ (by simp; omega)]
      simp
theorem lend_val (R : RwG c vs rss) (c3 : c ≤ 3) (l : vs.length ≤ 40) : lwLend (lwR c x0 x3 x4 x5 x6 (lE vs) x8 x9 x10 x11 x12 x13 x14) = .ret (.nx (lwR c x0 x3 .un (tE c rss) .un (lE vs) x8 x9 x10 x11 x12 x13 x14)) := by
  obtain ⟨dss, ll, R2, w, e⟩ := RowsL.els (x0 := x0) (x3 := x3) (x4 := x4) (x5 := x5) (x7 := lE vs) (x8 := x8) (x9 := x9) (x10 := x10) (x11 := x11) (x12 := x12) (x13 := x13) (x14 := x14) R.L
  have e1 : lCompLL [6] (iLst (eVar 7)) (gNm 6) yesT (lCa bList (aCons (eVar 6) aNil)) (lwR c x0 x3 x4 x5 x6 (lE vs) x8 x9 x10 x11 x12 x13 x14) = .ret dss := e [] [] (by simp; omega)
  have t := table2_val (.inl rfl) R2 c3 (by simp; omega)
  have n1 : (D.noLf [(("_columns" : Str), D.int (c : Int))] && ((rowsL rss).all D.noLs) && decide (dss.length ≤ 100000) && (dss.all fun ds => decide (ds.length ≤ 100000))) = true := by
    rw [noL_rows, decide_eq_true (show dss.length ≤ 100000 by omega)]
    have z : (dss.all fun ds => decide (ds.length ≤ 100000)) = true := List.all_eq_true.mpr fun ds hds => decide_eq_true (by have := w ds hds; omega)
    rw [z]
    rfl
  unfold lwLend sLend
  have d1 : (decide (4 < (lwR c x0 x3 x4 x5 x6 (lE vs) x8 x9 x10 x11 x12 x13 x14).length) && decide (6 < (lwR c x0 x3 x4 x5 x6 (lE vs) x8 x9 x10 x11 x12 x13 x14).length)) = true := rfl
  have v2 : eVar 2 ((lwR c x0 x3 x4 x5 x6 (lE vs) x8 x9 x10 x11 x12 x13 x14).set 4 .un) = .ret (.int (c : Int)) := rfl
  have tb : tabD c rss = .ins "Table" ([(("_columns" : Str), D.int (c : Int))] ++ [(("_rows" : Str), D.lst ((rowsL rss).map D.lst))]) := by
    unfold tabD tabF rowsL
    rw [List.map_map]
    rfl
  simp only [d1, cond, e1, T.bind, v2, t, n1, ← tb]
  rfl
end
end Pd
namespace Pd
open PySem L2 PySem.Spec PyProof.Rows
section
variable {c : Nat} {vs ws : List D} {rss qss : List (List Rat)} {x0 x2 x3 x4 x5 x6 x7 x8 x9 x10 x11 x12 x13 x14 : Ent} {s : Str}
theorem is_not {ρ : Rho} {a b d : Rho → T D} (h : TbOk c rss) (ha : a ρ = .ret (tabD c rss)) (hb : b ρ = .ret (.int (c : Int))) (hd : d ρ = .ret (prs rss)) : tNot' (eTest (eCall 3 isF (aCons a (aCons b (aCons d aNil))))) ρ = .ret false := not_is h ha hb hd
theorem T1_val (h : TbOk c rss) : lwT1 (lwR c x0 x3 x4 (tE c rss) x6 x7 (pE' rss) x9 x10 x11 x12 x13 x14) = .ret false := by
  unfold lwT1
  exact is_not h rfl rfl rfl
theorem rev_prs {ρ : Rho} {m : Rho → T D} (h : m ρ = .ret (prs rss)) : eL (lRev m) ρ = .ret (prs rss.reverse) := by
  have e := v_L (rev_val (ds := rss.map prD) h)
  rw [e, ← List.map_reverse]
  rfl
theorem T2_val (h : TbOk c rss) (g : TbOk c qss) (l : rss.length + qss.length ≤ 40) (hs : bReprR rRat [.lst vs] = .ret (.str s)) : lwT2 (lwR c x0 (tE c qss) x4 x5 x6 (lE vs) (pE' rss) x9 (pE' qss) (.val (.str s)) (tE c rss) x13 x14) = .ret false := by
  unfold lwT2
  refine v_or (is_not h rfl rfl rfl) (v_or (v_test (v_bin (v_ca (x := .lst vs) rfl hs) (y := .str s) rfl (by rw [opNA_str]; simp))) (v_or (is_not (h.app g l) (v_call2 (x := tabD c rss) (y := tabD c qss) rfl rfl (joined_val h g l)) rfl (add_prs (rss := rss) (qss := qss) rfl rfl (by omega))) (is_not h.rev (v_call1 (x := tabD c rss) rfl (turned_val h)) rfl (rev_prs rfl))))
theorem T3_val (h : TbOk c rss) (g : TbOk c qss) (l : rss.length + qss.length ≤ 40) : lwT3 (lwR c x0 (tE c qss) x4 x5 x6 x7 x8 x9 x10 x11 (tE c rss) x13 x14) = .ret false := by
  have t2 := turned_val h.rev
  rw [List.reverse_reverse] at t2
  have j := joined_val h g l
  have t := turned_val (h.app g l)
  have j2 := joined_val g.rev h.rev (by simp; omega)
  rw [← List.reverse_append] at j2
  unfold lwT3
  exact v_or (not_same (v_call1 (v_call1 (x := tabD c rss) rfl (turned_val h)) t2) rfl) (not_same (v_call1 (v_call2 (x := tabD c rss) (y := tabD c qss) rfl rfl j) t) (v_call2 (v_call1 (x := tabD c qss) rfl (turned_val g)) (v_call1 (x := tabD c rss) rfl (turned_val h)) j2))
theorem S1_val (h : TbOk c rss) : lwS1 (lwR c x0 x3 x4 x5 x6 x7 x8 x9 x10 x11 (tE c rss) x13 x14) = .ret (.nx (lwR c x0 x3 x4 x5 .un x7 x8 x9 x10 x11 (tE c rss) x13 x14)) := by
  have l := h.l40
  have m := m_rows2 (ρ := lwR c x0 x3 x4 x5 x6 x7 x8 x9 x10 x11 (tE c rss) x13 x14) (m := eVar 12) h rfl
  have z : (decide (6 < (lwR c x0 x3 x4 x5 x6 x7 x8 x9 x10 x11 (tE c rss) x13 x14).length) && ((rowsL rss).all fun ds => decide (ds.length ≤ 100000))) = true := by
    have q : ((rowsL rss).all fun ds => decide (ds.length ≤ 100000)) = true := by
      unfold rowsL
      rw [List.all_map, List.all_eq_true]
      intro rs hrs
      have := h.w rs hrs
      have := h.c3
      exact decide_eq_true (by simp; omega)
    rw [q]
    rfl
  unfold lwS1 sSpoil
  rw [m, T.bind, z]
  rfl
theorem S2_val (h : TbOk c rss) : lwS2 (lwR c x0 x3 x4 x5 x6 x7 x8 x9 x10 x11 (tE c rss) x13 x14) = .ret (.nx (lwR c x0 x3 x4 x5 x6 x7 x8 x9 x10 x11 (tE c rss) x13 x14)) := by
  have l := h.l40
  have m := m_rows2 (ρ := lwR c x0 x3 x4 x5 x6 x7 x8 x9 x10 x11 (tE c rss) x13 x14) (m := eVar 12) h rfl
  have z : decide ((rowsL rss).length ≤ 100000) = true := decide_eq_true (by unfold rowsL; simp; omega)
  unfold lwS2 sSpoilE
  rw [m, T.bind, z]
  rfl
theorem ratio_back (q : Rat) {ρ : Rho} {a b : Rho → T D} (ha : a ρ = .ret (.int q.num)) (hb : b ρ = .ret (.int (q.den : Int))) (s : Sz 3 q) : eMake "Ratio" 2 [] f_Ratio_init (aCons a (aCons b aNil)) ρ = .ret (qR q) := by
  have e := mk_val (x := a) (y := b) ha hb den_ne (log_of (n := 3) (x := ((q.den : Int)).natAbs) (by have := s.den; omega) (by decide) (by decide))
  rw [lowR_rat den_ne, Rat.divInt_ofNat, show mkRat q.num q.den = q from Rat.mkRat_self q] at e
  exact e
theorem anew_val (h : TbOk c rss) (sz : ∀ rs ∈ rss, ∀ r ∈ rs, Sz 3 r) : lwAnew (lwR c x0 x3 x4 x5 x6 x7 (pE' rss) x9 x10 x11 x12 x13 x14) = .ret (.lst (rss.map rowD)) := by
  have l := h.l40
  have := h.c3
  unfold lwAnew
  refine v_L (comp_g (e := prD) (f := rowD) (it_lst (ds := rss.map prD) rfl) (by omega) fun rs hrs => ⟨lwR c x0 x3 x4 x5 (.val (prD rs)) x7 (pE' rss) x9 x10 x11 x12 x13 x14, rfl, v_L (ds := rs.map qR) ?_⟩)
  have w := h.w rs hrs
  exact comp_g (e := qP) (f := qR) (it_lst (ds := rs.map qP) rfl) (by omega) fun q hq => ⟨lwR c x0 x3 x4 x5 (.val (prD rs)) x7 (pE' rss) x9 x10 x11 x12 (.val (qP q)) x14, rfl, ratio_back q (v_bin (x := qP q) (y := .int 0) rfl rfl rfl) (v_bin (x := qP q) (y := .int 1) rfl rfl rfl) (sz rs hrs q hq)⟩
theorem mkTi {ρ : Rho} {a b : Rho → T D} {v : D} {vs : List D} (ha : a ρ = .ret (.int (c : Int))) (hb : b ρ = .ret v) (hv : SeqOf v vs) (h : RowsL c vs rss) (c3 : c ≤ 3) (h40 : vs.length ≤ 40) : eMake "Table" 2 [] tiF (aCons a (aCons b aNil)) ρ = .ret (tabD c rss) := by
  have t := ti_val hv h c3 h40
  simp only [eMake, aCons, aNil, ha, hb, T.bind, List.length_cons, List.length_nil, BEq.rfl, cond, List.append_nil, t]
  rfl
theorem T4_val (h : TbOk c rss) (sz : ∀ rs ∈ rss, ∀ r ∈ rs, Sz 3 r) : lwT4 (lwR c x0 x3 x4 x5 x6 x7 (pE' rss) x9 x10 x11 (tE c rss) x13 x14) = .ret false := by
  unfold lwT4
  exact v_or (is_not h rfl rfl rfl) (not_same rfl (mkTi (v := .lst (rss.map rowD)) rfl (anew_val h sz) (.inl rfl) h.rows h.c3 (by simp; exact h.l40)))
theorem emp_val (c3 : c ≤ 3) : ∃ c2 : Nat, c2 ≠ c ∧ lwEmp (lwR c x0 x3 x4 x5 x6 x7 x8 x9 x10 x11 x12 x13 x14) = .ret (tabD c2 []) := by
  have m : ∃ c2 : Nat, c2 ≠ c ∧ c2 ≤ 3 ∧ eBin opMod (eBin opAdd (eVar 2) (eC (.int 1))) (eC (.int 4)) (lwR c x0 x3 x4 x5 x6 x7 x8 x9 x10 x11 x12 x13 x14) = .ret (.int (c2 : Int)) := by
    have : c = 0 ∨ c = 1 ∨ c = 2 ∨ c = 3 := by omega
    rcases this with rfl | rfl | rfl | rfl
    · exact ⟨1, by decide, by decide, rfl⟩
    · exact ⟨2, by decide, by decide, rfl⟩
    · exact ⟨3, by decide, by decide, rfl⟩
    · exact ⟨0, by decide, by decide, rfl⟩
  obtain ⟨c2, n, l, e⟩ := m
  refine ⟨c2, n, ?_⟩
  unfold lwEmp
  exact mkTi e rfl (.inl rfl) .nil l (by decide)
theorem bools_repr (b : Bool) : ∃ t, bReprR rRat [.lst [.bl b, .bl false, .bl false]] = .ret (.str t) := by
  have g : gB 1 100 (.lst [.bl b, .bl false, .bl false]) = true := by cases b <;> decide +kernel
  obtain ⟨t, e, _⟩ := repr_val (gOf g) (by decide) (by decide)
  exact ⟨t, e⟩
theorem lst3 {ρ : Rho} {a b d : Rho → T D} {x y z : D} (ha : a ρ = .ret x) (hb : b ρ = .ret y) (hd : d ρ = .ret z) : eL (lLst (aCons a (aCons b (aCons d aNil)))) ρ = .ret (.lst [x, y, z]) := by
  refine v_L (ds := [x, y, z]) ?_
  simp only [lLst, aCons, aNil, ha, hb, hd, T.bind, small3, cond]
theorem T5_val (c3 : c ≤ 3) : lwT5 (lwR c x0 (tE c qss) x4 x5 x6 (lE vs) (pE' rss) x9 (pE' qss) x11 (tE c rss) x13 x14) = .ret false := by
  obtain ⟨c2, n, e⟩ := emp_val (x0 := x0) (x3 := tE c qss) (x4 := x4) (x5 := x5) (x6 := x6) (x7 := lE vs) (x8 := pE' rss) (x9 := x9) (x10 := pE' qss) (x11 := x11) (x12 := tE c rss) (x13 := x13) (x14 := x14) c3
  obtain ⟨t, ht⟩ := bools_repr (decide (rss = qss))
  have r1 : lwR1 (lwR c x0 (tE c qss) x4 x5 x6 (lE vs) (pE' rss) x9 (pE' qss) x11 (tE c rss) x13 x14) = .ret (.lst [.bl (decide (rss = qss)), .bl false, .bl false]) := by
    unfold lwR1
    refine lst3 (v_bin (x := tabD c rss) (y := tabD c qss) rfl rfl ?_) (v_bin (x := tabD c rss) (y := .lst vs) rfl rfl (cmL_val vs)) (v_bin (x := tabD c rss) rfl e ?_)
    · rw [cmT_val, decide_eq_true rfl, Bool.true_and]
    · rw [cmT_val, decide_eq_false (fun z => n z.symm), Bool.false_and]
  have r2 : lwR2 (lwR c x0 (tE c qss) x4 x5 x6 (lE vs) (pE' rss) x9 (pE' qss) x11 (tE c rss) x13 x14) = .ret (.lst [.bl (decide (rss = qss)), .bl false, .bl false]) := by
    unfold lwR2
    exact lst3 (v_bin (x := prs rss) (y := prs qss) rfl rfl (opEA_prs rss qss)) rfl rfl
  unfold lwT5
  exact v_test (v_bin (v_ca r1 ht) (v_ca r2 ht) (by rw [opNA_str]; simp))
theorem call4_all {ρ : Rho} {a b e g : Rho → T D} {f : List D → T D} {P : D → Prop} {x y u z : D} (ha : a ρ = .ret x) (hb : b ρ = .ret y) (he : e ρ = .ret u) (hg : g ρ = .ret z) (h : (f [x, y, u, z]).all P) : (eCall 4 f (aCons a (aCons b (aCons e (aCons g aNil)))) ρ).all P := by
  simp only [eCall, aCons, aNil, ha, hb, he, hg, T.bind, List.length_cons, List.length_nil, BEq.rfl, cond]
  exact h
theorem call6_all {ρ : Rho} {a b e g m n : Rho → T D} {f : List D → T D} {P : D → Prop} {x y u z v w : D} (ha : a ρ = .ret x) (hb : b ρ = .ret y) (he : e ρ = .ret u) (hg : g ρ = .ret z) (hm : m ρ = .ret v) (hn : n ρ = .ret w) (h : (f [x, y, u, z, v, w]).all P) : (eCall 6 f (aCons a (aCons b (aCons e (aCons g (aCons m (aCons n aNil)))))) ρ).all P := by
  simp only [eCall, aCons, aNil, ha, hb, he, hg, hm, hn, T.bind, List.length_cons, List.length_nil, BEq.rfl, cond]
  exact h
theorem or_all {t u : Rho → T Bool} {ρ : Rho} (h : (t ρ).all fun b => b = false) (g : (u ρ).all fun b => b = false) : (tOr' t u ρ).all fun b => b = false := T.all_bind.mpr (T.all_mono (fun b hb => by
  subst hb
  exact g) h)
theorem not_all {m : Rho → T D} {ρ : Rho} (h : (m ρ).all fun d => d = .bl true) : (tNot' (eTest m) ρ).all fun b => b = false := T.all_bind.mpr (T.all_bind.mpr (T.all_mono (fun d hd => by
  subst hd
  rfl) h))
theorem T6_all {v : D} {ds : List D} {rs : List Rat} (h : TbOk c rss) (l : rss.length + 1 ≤ 40) (hv : SeqOf v ds) (hn : NumL ds rs) (hc : ds.length = c) : (lwT6 (lwR c x0 x3 x4 x5 x6 x7 (pE' rss) x9 x10 x11 (tE c rss) (lE [v]) (pE' [rs]))).all fun b => b = false := by
  unfold lwT6
  exact or_all (not_all (call4_all (x := .pot) (y := tabD c rss) (u := .int (c : Int)) (z := prs rss) rfl rfl rfl rfl (pieces_all h))) (not_all (call6_all (x := .pot) (y := tabD c rss) (u := .int (c : Int)) (z := prs rss) (v := v) (w := prD rs) rfl rfl rfl rfl rfl rfl (rows_all' h hv hn hc l)))
theorem if_all {t : Rho → T Bool} {m k : Rho → T Out} {ρ : Rho} {P : Out → Prop} (h : (t ρ).all fun b => b = false) (q : (k ρ).all P) : (bSeq (sIf t m bNil) k ρ).all P :=
  Pd.A.iff (T.all_mono (fun b hb => ⟨hb, q⟩) h)
theorem end_all (R : RwG c vs rss) (c3 : c ≤ 3) (l5 : vs.length ≤ 5) : (lwEnd (lwR c x0 x3 x4 x5 x6 (lE vs) x8 x9 x10 x11 x12 x13 x14)).all fun d => d = .bl true := by
  unfold lwEnd
  exact call3_all (all_eq (a := .pot) rfl (all_eq (a := .int (c : Int)) rfl (all_eq (a := .lst vs) rfl (any_all R c3 l5))))
theorem six_all (R : RwG c vs rss) (S : RwG c ws qss) (c3 : c ≤ 3) (l5 : vs.length ≤ 5) : (lwSix (lwR c x0 (tE c qss) x4 x5 x6 (lE vs) (pE' rss) (lE ws) (pE' qss) x11 (tE c rss) x13 x14)).all fun o => ∃ d, o = .rt d ∧ d = .bl true := by
  have h := R.tb c3 (by omega)
  unfold lwSix
  refine if_all (all_eq (T5_val c3) rfl) (seq_nx (T.all_mono (fun o ho => ?_) (D3_all c3)))
  obtain ⟨v, rs, ds, rfl, a, b, e⟩ := ho
  exact ⟨_, rfl, if_all (T6_all h (by rw [← R.L.len]; omega) a b e) (Pd.A.ret (T.all_mono (fun d hd => ⟨d, rfl, hd⟩) (end_all R c3 l5)))⟩
theorem four_all (R : RwG c vs rss) (S : RwG c ws qss) (c3 : c ≤ 3) (l5 : vs.length ≤ 5) (m5 : ws.length ≤ 5) (hs : bReprR rRat [.lst vs] = .ret (.str s)) : (lwFour (lwR c x0 (tE c qss) x4 (tE c rss) x6 (lE vs) (pE' rss) (lE ws) (pE' qss) (.val (.str s)) (tE c rss) x13 x14)).all fun o => ∃ d, o = .rt d ∧ d = .bl true := by
  have h := R.tb c3 (by omega)
  have g := S.tb c3 (by omega)
  have l : rss.length + qss.length ≤ 40 := by rw [← R.L.len, ← S.L.len]; omega
  unfold lwFour
  exact if_all (all_eq (T1_val h) rfl) (if_all (all_eq (T2_val h g l hs) rfl) (if_all (all_eq (T3_val h g l) rfl) (seq_nx (all_eq (S1_val h) ⟨_, rfl, seq_nx (all_eq (S2_val h) ⟨_, rfl, if_all (all_eq (T4_val h R.sz) rfl) (six_all R S c3 l5)⟩)⟩))))
end
/-- the law's def behind its first statement, the pot in its place -/
@[irreducible] def mlF : Rho → T Out := m_law
theorem law_right_all (x0 : Ent) : (mlF [x0, .val .pot, .un, .un, .un, .un, .un, .un, .un, .un, .un, .un, .un, .un, .un]).all fun o => ∃ d, o = .rt d ∧ d = .bl true := by
  unfold mlF
  rw [law_eq]
  refine Pd.A.set (draw_1 (n := 4) rfl rfl (by decide) (by decide) fun c hc => ?_)
  have c3 : c ≤ 3 := by omega
  show ((bSeq lwD1 _) (lwR c x0 .un .un .un .un .un .un .un .un .un .un .un .un)).all _
  refine seq_nx (T.all_mono (fun o ho => ?_) (D1_all c3))
  obtain ⟨vs, rss, rfl, R, l5⟩ := ho
  refine ⟨_, rfl, seq_nx (T.all_mono (fun o ho => ?_) (D2_all c3))⟩
  obtain ⟨ws, qss, rfl, S, m5⟩ := ho
  refine ⟨_, rfl, ?_⟩
  obtain ⟨s, hs⟩ := repr_v (v := .lst vs) ((Vl.lst l5 (by decide) fun v hv => R.v c3 v hv).mono (by decide) (by decide))
  refine seq_nx (T.all_bind.mpr (all_eq (a := .str s) (v_ca (x := .lst vs) rfl hs) (T.all_bind.mpr (T.all_mono (fun d hd => ?_) (make_all R c3 (by omega))))))
  subst hd
  refine ⟨_, rfl, ?_⟩
  show ((bSeq (sSet 3 lwOther) _) (lwR c x0 .un .un .un .un (lE vs) (pE' rss) (lE ws) (pE' qss) (.val (.str s)) (tE c rss) .un .un)).all _
  refine Pd.A.set (all_eq (other_val S c3 (by omega)) ?_)
  show ((bSeq lwLend lwFour) (lwR c x0 (tE c qss) .un .un .un (lE vs) (pE' rss) (lE ws) (pE' qss) (.val (.str s)) (tE c rss) .un .un)).all _
  exact seq_nx (all_eq (lend_val R c3 (by omega)) ⟨_, rfl, four_all R S c3 l5 m5 hs⟩)
end Pd
namespace Pd
open PySem L2 PySem.Spec PyProof.Rows
theorem kit_ref {K : PySem.W.Frag} {C : Addr} {T : String} {b : Bool} (h : PySem.W.subIn K (.ref C) (.type T) = some b) (m : PySem.W.kitMeta T = true) : PySem.W.kitOne K (.ref C) (.type T) = some b := by
  unfold PySem.W.kitOne
  rw [if_neg (by intro z; cases z)]
  show (if PySem.W.kitMeta T = true then _ else _) = _
  rw [if_pos m]
  exact h
theorem kit_of {K : PySem.W.Frag} {C : Addr} {T : String} {b : Bool} (h : PySem.W.subIn K (.type T) (.ref C) = some b) (c : PySem.W.isClsIn K C = true) (t : PySem.W.typeIn K (.ref C) = some (.type "type")) : PySem.W.kitOne K (.type T) (.ref C) = some b := by
  unfold PySem.W.kitOne
  rw [if_neg (by intro z; cases z)]
  show (if ((PySem.W.clsIn K C).isSome && PySem.W.typeIn K (.ref C) == some (.type "type")) = true then _ else _) = _
  rw [if_pos (by rw [t]; exact (Bool.and_eq_true _ _).mpr ⟨c, by decide +kernel⟩)]
  exact h
theorem kit_rr {K : PySem.W.Frag} {C D : Addr} {b : Bool} (ne : C ≠ D) (h : PySem.W.subIn K (.ref C) (.ref D) = some b) (c : PySem.W.isClsIn K D = true) (t : PySem.W.typeIn K (.ref D) = some (.type "type")) : PySem.W.kitOne K (.ref C) (.ref D) = some b := by
  unfold PySem.W.kitOne
  rw [if_neg (by simp [ne])]
  show (if ((PySem.W.clsIn K D).isSome && PySem.W.typeIn K (.ref D) == some (.type "type")) = true then _ else _) = _
  rw [if_pos (by rw [t]; exact (Bool.and_eq_true _ _).mpr ⟨c, by decide +kernel⟩)]
  exact h
theorem fail_ok {P : Program} {w : World} {K : PySem.W.Frag} {mg : Str → Option Value} {base : Heap} {k n : Nat} {f : Addr} {fd : FuncData} {ps : List Str} : FnOk P w K mg base CX0 k f fd ps (spD K P w n fun _ => .fail) :=
  ⟨fun _ _ _ _ ⟨_, _, _, _, _, _, h⟩ => h.elim, fun _ _ _ _ _ _ _ _ _ _ _ _ _ ⟨_, _, _, _, _, _, h⟩ => h.elim⟩
def spL (K : PySem.W.Frag) : Sp := fun vs H Q _ => ∃ (a : Addr) (ns : List Int), vs = [.ref a] ∧ SqL K H a (ns.map V.int) ∧ ∀ H', Q (.bl true) H'
section
variable {P : Program} {w : World} {K : PySem.W.Frag} {mg : Str → Option Value} {base : Heap} {a_f : Addr} {d_f : FuncData}
theorem gv_Rrepr {h0 : Option Value} {ft : List D → T D} {C a_i a_t : Addr} {d_i d_t : FuncData} (F : Fun K "__repr__" "Ratio.__repr__" s_Rrepr a_f d_f) (R : RH P w K mg base ft C a_i a_t d_i d_t) : FnV h0 P w K mg base 1 a_f d_f ["self"] (spD K P w 1 f_Rrepr) :=
  fnV_ok (n := 1) (p := 1) (m := m_Rrepr) (k := 0) F sc_Rrepr rfl rfl rfl (fun cdv A outer s H E hr =>
    b_one (ss_ret (s_join (.cons s_str (.cons (s_fmt (s_attr R.at_ R.cl R.nt (sv 0))) (.cons s_str (.cons (s_fmt (s_attr R.at_ R.cl R.nb (sv 0))) (.cons s_str .nil))))))))
theorem g_law {a_pot a_law : Addr} {d_pot d_law : FuncData} (F : Fun K "law" "law" s_law a_law d_law) (mp : mg "_law_pot" = some (.ref a_pot)) (kp : PySem.W.keepIn K (.ref a_pot) = true) (GP : FnOk P w K mg base CX0 1 a_pot d_pot ["_law_script", "_law_k"] (spPot K)) (BP : Binds K d_pot ["_law_script", "_law_k"] [])
    (RS : ∀ (cdv : Value) (A : Around) (outer : List Env) (s : Shared) (H : Hp) (E : XK), Room 29 (A.deeper (PyProof.Rows.envOfC "law" (defScope s_law) s.heap.objs.size a_law cdv)) → A.guards = some [] → SndB (cxOf CX0 P w K mg base ["_law_script", "_law_pot_here", "_law_wide", "_law_other", "_law_given", "_law_kept", "_law_row", "_law_rows_here", "_law_pairs", "_law_more", "_law_others", "_law_shown", "_law_table", "_law_one", "_law_told"] "law" (defScope s_law) a_law cdv A outer s H E).nox ((defBody s_law).tail) m_law) :
    FnG P w K mg base CX0 30 a_law d_law ["_law_script"] (spL K) := by
  have nd := sc_law.nd
  refine okG (k := 29) F sc_law (fun vs H Q E h => ?_) (fun cdv A outer s H vs Q E hr hgd h => ⟨_, pss_cons (ps_set (i := 1) nd rfl (by first | exact rfl | exact .inl rfl | exact .inr rfl | exact .inr (.inl rfl)) (pe_call GP (hr.mono (by decide)) rfl mp kp BP .nil pass0 (pa_cons (pv 0) (pa_cons pe_int pa_nil)))) pss_wp, ?_⟩)
  · obtain ⟨a, ns, rfl, _⟩ := h
    rfl
  · obtain ⟨a, ns, rfl, hs, q⟩ := h
    refine ⟨_, rfl, a, ns, 0, rfl, by decide, hs, fun p x y hp x0 y0 y1 => ?_⟩
    have hpot : PotOk (upd H p (.lst [.int x, .int y])) p := ⟨x, y, upd_same, x0, y0, y1⟩
    have hn : HN p (fun _ => false) (upd H p (.lst [.int x, .int y])) := ⟨hpot, rfl, fun a h => nomatch h⟩
    have I0 : EnvOk K P w p (fun _ => false) (upd H p (.lst [.int x, .int y])) (fun _ => false) (upd H p (.lst [.int x, .int y])) (L2.start ["_law_script", "_law_pot_here", "_law_wide", "_law_other", "_law_given", "_law_kept", "_law_row", "_law_rows_here", "_law_pairs", "_law_more", "_law_others", "_law_shown", "_law_table", "_law_one", "_law_told"] [.ref a]) (List.replicate 15 .un) := env_un hn rfl
    have I1 := I0.set (i := 1) .pot
    refine RS cdv A outer s H E hr hgd I1 (T.all_mono (fun o ho => ?_) (by have := law_right_all .un; unfold mlF at this; exact this))
    obtain ⟨d, rfl, rfl⟩ := ho
    intro v H2 e r
    rw [r.bool]
    exact q H2
end
theorem all_mk {l : PySem.W.OpenLaw} {w : World} {K : PySem.W.Frag} {h : Heap} {mg : Str → Option Value} {fa : Addr} (X : K.In h) (G : h.Ns mainGlobals mg) (hfa : mg "law" = some (.ref fa))
    {C : Addr}
    {f_is_count : Addr} {od_is_count an_is_count : Option Addr} {sl_is_count : Array (Option Value)} {oc_is_count kV_is_count dc_is_count pm_is_count cd_is_count ct_is_count : Value}
    {f_is_count_to : Addr} {od_is_count_to an_is_count_to : Option Addr} {sl_is_count_to : Array (Option Value)} {oc_is_count_to kV_is_count_to dc_is_count_to pm_is_count_to cd_is_count_to ct_is_count_to : Value}
    {f_is_list : Addr} {od_is_list an_is_list : Option Addr} {sl_is_list : Array (Option Value)} {oc_is_list kV_is_list dc_is_list pm_is_list cd_is_list ct_is_list : Value}
    {f_need_columns : Addr} {od_need_columns an_need_columns : Option Addr} {sl_need_columns : Array (Option Value)} {oc_need_columns kV_need_columns dc_need_columns pm_need_columns cd_need_columns ct_need_columns : Value}
    {f_as_ratio : Addr} {od_as_ratio an_as_ratio : Option Addr} {sl_as_ratio : Array (Option Value)} {oc_as_ratio kV_as_ratio dc_as_ratio pm_as_ratio cd_as_ratio ct_as_ratio : Value}
    {f_are_numbers : Addr} {od_are_numbers an_are_numbers : Option Addr} {sl_are_numbers : Array (Option Value)} {oc_are_numbers kV_are_numbers dc_are_numbers pm_are_numbers cd_are_numbers ct_are_numbers : Value}
    {f_are_rows : Addr} {od_are_rows an_are_rows : Option Addr} {sl_are_rows : Array (Option Value)} {oc_are_rows kV_are_rows dc_are_rows pm_are_rows cd_are_rows ct_are_rows : Value}
    {f_need_like_columns : Addr} {od_need_like_columns an_need_like_columns : Option Addr} {sl_need_like_columns : Array (Option Value)} {oc_need_like_columns kV_need_like_columns dc_need_like_columns pm_need_like_columns cd_need_like_columns ct_need_like_columns : Value}
    {f_need_table : Addr} {od_need_table an_need_table : Option Addr} {sl_need_table : Array (Option Value)} {oc_need_table kV_need_table dc_need_table pm_need_table cd_need_table ct_need_table : Value}
    {f_need_row : Addr} {od_need_row an_need_row : Option Addr} {sl_need_row : Array (Option Value)} {oc_need_row kV_need_row dc_need_row pm_need_row cd_need_row ct_need_row : Value}
    {f_need_position : Addr} {od_need_position an_need_position : Option Addr} {sl_need_position : Array (Option Value)} {oc_need_position kV_need_position dc_need_position pm_need_position cd_need_position ct_need_position : Value}
    {f_need_place_for_rows : Addr} {od_need_place_for_rows an_need_place_for_rows : Option Addr} {sl_need_place_for_rows : Array (Option Value)} {oc_need_place_for_rows kV_need_place_for_rows dc_need_place_for_rows pm_need_place_for_rows cd_need_place_for_rows ct_need_place_for_rows : Value}
    {f_joined : Addr} {od_joined an_joined : Option Addr} {sl_joined : Array (Option Value)} {oc_joined kV_joined dc_joined pm_joined cd_joined ct_joined : Value}
    {f_turned : Addr} {od_turned an_turned : Option Addr} {sl_turned : Array (Option Value)} {oc_turned kV_turned dc_turned pm_turned cd_turned ct_turned : Value}
    {f_piece : Addr} {od_piece an_piece : Option Addr} {sl_piece : Array (Option Value)} {oc_piece kV_piece dc_piece pm_piece cd_piece ct_piece : Value}
    {f_with_row : Addr} {od_with_row an_with_row : Option Addr} {sl_with_row : Array (Option Value)} {oc_with_row kV_with_row dc_with_row pm_with_row cd_with_row ct_with_row : Value}
    {f_without_row : Addr} {od_without_row an_without_row : Option Addr} {sl_without_row : Array (Option Value)} {oc_without_row kV_without_row dc_without_row pm_without_row cd_without_row ct_without_row : Value}
    {f_exchanged : Addr} {od_exchanged an_exchanged : Option Addr} {sl_exchanged : Array (Option Value)} {oc_exchanged kV_exchanged dc_exchanged pm_exchanged cd_exchanged ct_exchanged : Value}
    {f_Lpick : Addr} {od_Lpick an_Lpick : Option Addr} {sl_Lpick : Array (Option Value)} {oc_Lpick kV_Lpick dc_Lpick pm_Lpick cd_Lpick ct_Lpick : Value}
    {f_Llow : Addr} {od_Llow an_Llow : Option Addr} {sl_Llow : Array (Option Value)} {oc_Llow kV_Llow dc_Llow pm_Llow cd_Llow ct_Llow : Value}
    {f_Lpair : Addr} {od_Lpair an_Lpair : Option Addr} {sl_Lpair : Array (Option Value)} {oc_Lpair kV_Lpair dc_Lpair pm_Lpair cd_Lpair ct_Lpair : Value}
    {f_Lnumber : Addr} {od_Lnumber an_Lnumber : Option Addr} {sl_Lnumber : Array (Option Value)} {oc_Lnumber kV_Lnumber dc_Lnumber pm_Lnumber cd_Lnumber ct_Lnumber : Value}
    {f_Lrows : Addr} {od_Lrows an_Lrows : Option Addr} {sl_Lrows : Array (Option Value)} {oc_Lrows kV_Lrows dc_Lrows pm_Lrows cd_Lrows ct_Lrows : Value}
    {f_Lis : Addr} {od_Lis an_Lis : Option Addr} {sl_Lis : Array (Option Value)} {oc_Lis kV_Lis dc_Lis pm_Lis cd_Lis ct_Lis : Value}
    {f_Lpieces_right : Addr} {od_Lpieces_right an_Lpieces_right : Option Addr} {sl_Lpieces_right : Array (Option Value)} {oc_Lpieces_right kV_Lpieces_right dc_Lpieces_right pm_Lpieces_right cd_Lpieces_right ct_Lpieces_right : Value}
    {f_Lrows_right : Addr} {od_Lrows_right an_Lrows_right : Option Addr} {sl_Lrows_right : Array (Option Value)} {oc_Lrows_right kV_Lrows_right dc_Lrows_right pm_Lrows_right cd_Lrows_right ct_Lrows_right : Value}
    {f_Lis_number : Addr} {od_Lis_number an_Lis_number : Option Addr} {sl_Lis_number : Array (Option Value)} {oc_Lis_number kV_Lis_number dc_Lis_number pm_Lis_number cd_Lis_number ct_Lis_number : Value}
    {f_Lare_rows : Addr} {od_Lare_rows an_Lare_rows : Option Addr} {sl_Lare_rows : Array (Option Value)} {oc_Lare_rows kV_Lare_rows dc_Lare_rows pm_Lare_rows cd_Lare_rows ct_Lare_rows : Value}
    {f_Lheard : Addr} {od_Lheard an_Lheard : Option Addr} {sl_Lheard : Array (Option Value)} {oc_Lheard kV_Lheard dc_Lheard pm_Lheard cd_Lheard ct_Lheard : Value}
    {f_Lany_right : Addr} {od_Lany_right an_Lany_right : Option Addr} {sl_Lany_right : Array (Option Value)} {oc_Lany_right kV_Lany_right dc_Lany_right pm_Lany_right cd_Lany_right ct_Lany_right : Value}
    {f_Ldraw : Addr} {od_Ldraw an_Ldraw : Option Addr} {sl_Ldraw : Array (Option Value)} {oc_Ldraw kV_Ldraw dc_Ldraw pm_Ldraw cd_Ldraw ct_Ldraw : Value}
    {f_Lpot : Addr} {od_Lpot an_Lpot : Option Addr} {sl_Lpot : Array (Option Value)} {oc_Lpot kV_Lpot dc_Lpot pm_Lpot cd_Lpot ct_Lpot : Value}
    {f_isInt : Addr} {od_isInt an_isInt : Option Addr} {sl_isInt : Array (Option Value)} {oc_isInt kV_isInt dc_isInt pm_isInt cd_isInt ct_isInt : Value}
    {f_isNum : Addr} {od_isNum an_isNum : Option Addr} {sl_isNum : Array (Option Value)} {oc_isNum kV_isNum dc_isNum pm_isNum cd_isNum ct_isNum : Value}
    {f_need : Addr} {od_need an_need : Option Addr} {sl_need : Array (Option Value)} {oc_need kV_need dc_need pm_need cd_need ct_need : Value}
    {f_tb : Addr} {od_tb an_tb : Option Addr} {sl_tb : Array (Option Value)} {oc_tb kV_tb dc_tb pm_tb cd_tb ct_tb : Value}
    {f_law : Addr} {od_law an_law : Option Addr} {sl_law : Array (Option Value)} {oc_law kV_law dc_law pm_law cd_law ct_law : Value}
    {T1 : Addr} {ocT : Value} {odT : Option Addr} {tk1 : Tok} {nT : Nat} {slT : Array (Option Value)}
    {f_Rinit : Addr} {od_Rinit an_Rinit : Option Addr} {sl_Rinit : Array (Option Value)} {oc_Rinit kV_Rinit dc_Rinit pm_Rinit cd_Rinit ct_Rinit : Value}
    {p_Rtop : Addr} {r_Rtop : List Value}
    {f_Rtop : Addr} {od_Rtop an_Rtop : Option Addr} {sl_Rtop : Array (Option Value)} {oc_Rtop kV_Rtop dc_Rtop pm_Rtop cd_Rtop ct_Rtop : Value}
    {p_Rbottom : Addr} {r_Rbottom : List Value}
    {f_Rbottom : Addr} {od_Rbottom an_Rbottom : Option Addr} {sl_Rbottom : Array (Option Value)} {oc_Rbottom kV_Rbottom dc_Rbottom pm_Rbottom cd_Rbottom ct_Rbottom : Value}
    {f_Req : Addr} {od_Req an_Req : Option Addr} {sl_Req : Array (Option Value)} {oc_Req kV_Req dc_Req pm_Req cd_Req ct_Req : Value}
    {f_Rrepr : Addr} {od_Rrepr an_Rrepr : Option Addr} {sl_Rrepr : Array (Option Value)} {oc_Rrepr kV_Rrepr dc_Rrepr pm_Rrepr cd_Rrepr ct_Rrepr : Value}
    {CTable : Addr}
    {f_Table_init : Addr} {od_Table_init an_Table_init : Option Addr} {sl_Table_init : Array (Option Value)} {oc_Table_init kV_Table_init dc_Table_init pm_Table_init cd_Table_init ct_Table_init : Value}
    {p_Table_columns : Addr} {r_Table_columns : List Value}
    {f_Table_columns : Addr} {od_Table_columns an_Table_columns : Option Addr} {sl_Table_columns : Array (Option Value)} {oc_Table_columns kV_Table_columns dc_Table_columns pm_Table_columns cd_Table_columns ct_Table_columns : Value}
    {p_Table_height : Addr} {r_Table_height : List Value}
    {f_Table_height : Addr} {od_Table_height an_Table_height : Option Addr} {sl_Table_height : Array (Option Value)} {oc_Table_height kV_Table_height dc_Table_height pm_Table_height cd_Table_height ct_Table_height : Value}
    {f_Table_rows : Addr} {od_Table_rows an_Table_rows : Option Addr} {sl_Table_rows : Array (Option Value)} {oc_Table_rows kV_Table_rows dc_Table_rows pm_Table_rows cd_Table_rows ct_Table_rows : Value}
    {f_Table_eq : Addr} {od_Table_eq an_Table_eq : Option Addr} {sl_Table_eq : Array (Option Value)} {oc_Table_eq kV_Table_eq dc_Table_eq pm_Table_eq cd_Table_eq ct_Table_eq : Value}
    {t_MOST_COLUMNS : Tok}
    {t_MOST_ROWS : Tok}
    {E_InvalidColumns : Addr}
    {f_InvalidColumns_init : Addr} {od_InvalidColumns_init an_InvalidColumns_init : Option Addr} {sl_InvalidColumns_init : Array (Option Value)} {oc_InvalidColumns_init kV_InvalidColumns_init dc_InvalidColumns_init pm_InvalidColumns_init cd_InvalidColumns_init ct_InvalidColumns_init : Value}
    {E_InvalidRows : Addr}
    {f_InvalidRows_init : Addr} {od_InvalidRows_init an_InvalidRows_init : Option Addr} {sl_InvalidRows_init : Array (Option Value)} {oc_InvalidRows_init kV_InvalidRows_init dc_InvalidRows_init pm_InvalidRows_init cd_InvalidRows_init ct_InvalidRows_init : Value}
    (aC : PySem.W.nsIn K mainGlobals "Ratio" = some (some (.ref C)))
    (a_is_count : PySem.W.nsIn K mainGlobals "is_count" = some (some (.ref f_is_count)))
    (l_is_count : K.lookup f_is_count = some ⟨oc_is_count, od_is_count, .func (PySem.W.fnOf "is_count" "is_count" (defArgs s_is_count) (defBody s_is_count) (defScope s_is_count) .none kV_is_count dc_is_count pm_is_count an_is_count cd_is_count ct_is_count), sl_is_count⟩)
    (c_is_count : PySem.W.codeIn K cd_is_count "is_count" = true)
    (k_is_count : PySem.W.keepIn K (.ref f_is_count) = true)
    (a_is_count_to : PySem.W.nsIn K mainGlobals "is_count_to" = some (some (.ref f_is_count_to)))
    (l_is_count_to : K.lookup f_is_count_to = some ⟨oc_is_count_to, od_is_count_to, .func (PySem.W.fnOf "is_count_to" "is_count_to" (defArgs s_is_count_to) (defBody s_is_count_to) (defScope s_is_count_to) .none kV_is_count_to dc_is_count_to pm_is_count_to an_is_count_to cd_is_count_to ct_is_count_to), sl_is_count_to⟩)
    (c_is_count_to : PySem.W.codeIn K cd_is_count_to "is_count_to" = true)
    (k_is_count_to : PySem.W.keepIn K (.ref f_is_count_to) = true)
    (a_is_list : PySem.W.nsIn K mainGlobals "is_list" = some (some (.ref f_is_list)))
    (l_is_list : K.lookup f_is_list = some ⟨oc_is_list, od_is_list, .func (PySem.W.fnOf "is_list" "is_list" (defArgs s_is_list) (defBody s_is_list) (defScope s_is_list) .none kV_is_list dc_is_list pm_is_list an_is_list cd_is_list ct_is_list), sl_is_list⟩)
    (c_is_list : PySem.W.codeIn K cd_is_list "is_list" = true)
    (k_is_list : PySem.W.keepIn K (.ref f_is_list) = true)
    (a_need_columns : PySem.W.nsIn K mainGlobals "need_columns" = some (some (.ref f_need_columns)))
    (l_need_columns : K.lookup f_need_columns = some ⟨oc_need_columns, od_need_columns, .func (PySem.W.fnOf "need_columns" "need_columns" (defArgs s_need_columns) (defBody s_need_columns) (defScope s_need_columns) .none kV_need_columns dc_need_columns pm_need_columns an_need_columns cd_need_columns ct_need_columns), sl_need_columns⟩)
    (c_need_columns : PySem.W.codeIn K cd_need_columns "need_columns" = true)
    (k_need_columns : PySem.W.keepIn K (.ref f_need_columns) = true)
    (a_as_ratio : PySem.W.nsIn K mainGlobals "as_ratio" = some (some (.ref f_as_ratio)))
    (l_as_ratio : K.lookup f_as_ratio = some ⟨oc_as_ratio, od_as_ratio, .func (PySem.W.fnOf "as_ratio" "as_ratio" (defArgs s_as_ratio) (defBody s_as_ratio) (defScope s_as_ratio) .none kV_as_ratio dc_as_ratio pm_as_ratio an_as_ratio cd_as_ratio ct_as_ratio), sl_as_ratio⟩)
    (c_as_ratio : PySem.W.codeIn K cd_as_ratio "as_ratio" = true)
    (k_as_ratio : PySem.W.keepIn K (.ref f_as_ratio) = true)
    (a_are_numbers : PySem.W.nsIn K mainGlobals "are_numbers" = some (some (.ref f_are_numbers)))
    (l_are_numbers : K.lookup f_are_numbers = some ⟨oc_are_numbers, od_are_numbers, .func (PySem.W.fnOf "are_numbers" "are_numbers" (defArgs s_are_numbers) (defBody s_are_numbers) (defScope s_are_numbers) .none kV_are_numbers dc_are_numbers pm_are_numbers an_are_numbers cd_are_numbers ct_are_numbers), sl_are_numbers⟩)
    (c_are_numbers : PySem.W.codeIn K cd_are_numbers "are_numbers" = true)
    (k_are_numbers : PySem.W.keepIn K (.ref f_are_numbers) = true)
    (a_are_rows : PySem.W.nsIn K mainGlobals "are_rows" = some (some (.ref f_are_rows)))
    (l_are_rows : K.lookup f_are_rows = some ⟨oc_are_rows, od_are_rows, .func (PySem.W.fnOf "are_rows" "are_rows" (defArgs s_are_rows) (defBody s_are_rows) (defScope s_are_rows) .none kV_are_rows dc_are_rows pm_are_rows an_are_rows cd_are_rows ct_are_rows), sl_are_rows⟩)
    (c_are_rows : PySem.W.codeIn K cd_are_rows "are_rows" = true)
    (k_are_rows : PySem.W.keepIn K (.ref f_are_rows) = true)
    (a_need_like_columns : PySem.W.nsIn K mainGlobals "need_like_columns" = some (some (.ref f_need_like_columns)))
    (l_need_like_columns : K.lookup f_need_like_columns = some ⟨oc_need_like_columns, od_need_like_columns, .func (PySem.W.fnOf "need_like_columns" "need_like_columns" (defArgs s_need_like_columns) (defBody s_need_like_columns) (defScope s_need_like_columns) .none kV_need_like_columns dc_need_like_columns pm_need_like_columns an_need_like_columns cd_need_like_columns ct_need_like_columns), sl_need_like_columns⟩)
    (c_need_like_columns : PySem.W.codeIn K cd_need_like_columns "need_like_columns" = true)
    (k_need_like_columns : PySem.W.keepIn K (.ref f_need_like_columns) = true)
    (a_need_table : PySem.W.nsIn K mainGlobals "need_table" = some (some (.ref f_need_table)))
    (l_need_table : K.lookup f_need_table = some ⟨oc_need_table, od_need_table, .func (PySem.W.fnOf "need_table" "need_table" (defArgs s_need_table) (defBody s_need_table) (defScope s_need_table) .none kV_need_table dc_need_table pm_need_table an_need_table cd_need_table ct_need_table), sl_need_table⟩)
    (c_need_table : PySem.W.codeIn K cd_need_table "need_table" = true)
    (k_need_table : PySem.W.keepIn K (.ref f_need_table) = true)
    (a_need_row : PySem.W.nsIn K mainGlobals "need_row" = some (some (.ref f_need_row)))
    (l_need_row : K.lookup f_need_row = some ⟨oc_need_row, od_need_row, .func (PySem.W.fnOf "need_row" "need_row" (defArgs s_need_row) (defBody s_need_row) (defScope s_need_row) .none kV_need_row dc_need_row pm_need_row an_need_row cd_need_row ct_need_row), sl_need_row⟩)
    (c_need_row : PySem.W.codeIn K cd_need_row "need_row" = true)
    (k_need_row : PySem.W.keepIn K (.ref f_need_row) = true)
    (a_need_position : PySem.W.nsIn K mainGlobals "need_position" = some (some (.ref f_need_position)))
    (l_need_position : K.lookup f_need_position = some ⟨oc_need_position, od_need_position, .func (PySem.W.fnOf "need_position" "need_position" (defArgs s_need_position) (defBody s_need_position) (defScope s_need_position) .none kV_need_position dc_need_position pm_need_position an_need_position cd_need_position ct_need_position), sl_need_position⟩)
    (c_need_position : PySem.W.codeIn K cd_need_position "need_position" = true)
    (k_need_position : PySem.W.keepIn K (.ref f_need_position) = true)
    (a_need_place_for_rows : PySem.W.nsIn K mainGlobals "need_place_for_rows" = some (some (.ref f_need_place_for_rows)))
    (l_need_place_for_rows : K.lookup f_need_place_for_rows = some ⟨oc_need_place_for_rows, od_need_place_for_rows, .func (PySem.W.fnOf "need_place_for_rows" "need_place_for_rows" (defArgs s_need_place_for_rows) (defBody s_need_place_for_rows) (defScope s_need_place_for_rows) .none kV_need_place_for_rows dc_need_place_for_rows pm_need_place_for_rows an_need_place_for_rows cd_need_place_for_rows ct_need_place_for_rows), sl_need_place_for_rows⟩)
    (c_need_place_for_rows : PySem.W.codeIn K cd_need_place_for_rows "need_place_for_rows" = true)
    (k_need_place_for_rows : PySem.W.keepIn K (.ref f_need_place_for_rows) = true)
    (a_joined : PySem.W.nsIn K mainGlobals "joined" = some (some (.ref f_joined)))
    (l_joined : K.lookup f_joined = some ⟨oc_joined, od_joined, .func (PySem.W.fnOf "joined" "joined" (defArgs s_joined) (defBody s_joined) (defScope s_joined) .none kV_joined dc_joined pm_joined an_joined cd_joined ct_joined), sl_joined⟩)
    (c_joined : PySem.W.codeIn K cd_joined "joined" = true)
    (k_joined : PySem.W.keepIn K (.ref f_joined) = true)
    (a_turned : PySem.W.nsIn K mainGlobals "turned" = some (some (.ref f_turned)))
    (l_turned : K.lookup f_turned = some ⟨oc_turned, od_turned, .func (PySem.W.fnOf "turned" "turned" (defArgs s_turned) (defBody s_turned) (defScope s_turned) .none kV_turned dc_turned pm_turned an_turned cd_turned ct_turned), sl_turned⟩)
    (c_turned : PySem.W.codeIn K cd_turned "turned" = true)
    (k_turned : PySem.W.keepIn K (.ref f_turned) = true)
    (a_piece : PySem.W.nsIn K mainGlobals "piece" = some (some (.ref f_piece)))
    (l_piece : K.lookup f_piece = some ⟨oc_piece, od_piece, .func (PySem.W.fnOf "piece" "piece" (defArgs s_piece) (defBody s_piece) (defScope s_piece) .none kV_piece dc_piece pm_piece an_piece cd_piece ct_piece), sl_piece⟩)
    (c_piece : PySem.W.codeIn K cd_piece "piece" = true)
    (k_piece : PySem.W.keepIn K (.ref f_piece) = true)
    (a_with_row : PySem.W.nsIn K mainGlobals "with_row" = some (some (.ref f_with_row)))
    (l_with_row : K.lookup f_with_row = some ⟨oc_with_row, od_with_row, .func (PySem.W.fnOf "with_row" "with_row" (defArgs s_with_row) (defBody s_with_row) (defScope s_with_row) .none kV_with_row dc_with_row pm_with_row an_with_row cd_with_row ct_with_row), sl_with_row⟩)
    (c_with_row : PySem.W.codeIn K cd_with_row "with_row" = true)
    (k_with_row : PySem.W.keepIn K (.ref f_with_row) = true)
    (a_without_row : PySem.W.nsIn K mainGlobals "without_row" = some (some (.ref f_without_row)))
    (l_without_row : K.lookup f_without_row = some ⟨oc_without_row, od_without_row, .func (PySem.W.fnOf "without_row" "without_row" (defArgs s_without_row) (defBody s_without_row) (defScope s_without_row) .none kV_without_row dc_without_row pm_without_row an_without_row cd_without_row ct_without_row), sl_without_row⟩)
    (c_without_row : PySem.W.codeIn K cd_without_row "without_row" = true)
    (k_without_row : PySem.W.keepIn K (.ref f_without_row) = true)
    (a_exchanged : PySem.W.nsIn K mainGlobals "exchanged" = some (some (.ref f_exchanged)))
    (l_exchanged : K.lookup f_exchanged = some ⟨oc_exchanged, od_exchanged, .func (PySem.W.fnOf "exchanged" "exchanged" (defArgs s_exchanged) (defBody s_exchanged) (defScope s_exchanged) .none kV_exchanged dc_exchanged pm_exchanged an_exchanged cd_exchanged ct_exchanged), sl_exchanged⟩)
    (c_exchanged : PySem.W.codeIn K cd_exchanged "exchanged" = true)
    (k_exchanged : PySem.W.keepIn K (.ref f_exchanged) = true)
    (a_Lpick : PySem.W.nsIn K mainGlobals "_law_pick" = some (some (.ref f_Lpick)))
    (l_Lpick : K.lookup f_Lpick = some ⟨oc_Lpick, od_Lpick, .func (PySem.W.fnOf "_law_pick" "_law_pick" (defArgs s__law_pick) (defBody s__law_pick) (defScope s__law_pick) .none kV_Lpick dc_Lpick pm_Lpick an_Lpick cd_Lpick ct_Lpick), sl_Lpick⟩)
    (c_Lpick : PySem.W.codeIn K cd_Lpick "_law_pick" = true)
    (k_Lpick : PySem.W.keepIn K (.ref f_Lpick) = true)
    (a_Llow : PySem.W.nsIn K mainGlobals "_law_low" = some (some (.ref f_Llow)))
    (l_Llow : K.lookup f_Llow = some ⟨oc_Llow, od_Llow, .func (PySem.W.fnOf "_law_low" "_law_low" (defArgs s__law_low) (defBody s__law_low) (defScope s__law_low) .none kV_Llow dc_Llow pm_Llow an_Llow cd_Llow ct_Llow), sl_Llow⟩)
    (c_Llow : PySem.W.codeIn K cd_Llow "_law_low" = true)
    (k_Llow : PySem.W.keepIn K (.ref f_Llow) = true)
    (a_Lpair : PySem.W.nsIn K mainGlobals "_law_pair" = some (some (.ref f_Lpair)))
    (l_Lpair : K.lookup f_Lpair = some ⟨oc_Lpair, od_Lpair, .func (PySem.W.fnOf "_law_pair" "_law_pair" (defArgs s__law_pair) (defBody s__law_pair) (defScope s__law_pair) .none kV_Lpair dc_Lpair pm_Lpair an_Lpair cd_Lpair ct_Lpair), sl_Lpair⟩)
    (c_Lpair : PySem.W.codeIn K cd_Lpair "_law_pair" = true)
    (k_Lpair : PySem.W.keepIn K (.ref f_Lpair) = true)
    (a_Lnumber : PySem.W.nsIn K mainGlobals "_law_number" = some (some (.ref f_Lnumber)))
    (l_Lnumber : K.lookup f_Lnumber = some ⟨oc_Lnumber, od_Lnumber, .func (PySem.W.fnOf "_law_number" "_law_number" (defArgs s__law_number) (defBody s__law_number) (defScope s__law_number) .none kV_Lnumber dc_Lnumber pm_Lnumber an_Lnumber cd_Lnumber ct_Lnumber), sl_Lnumber⟩)
    (c_Lnumber : PySem.W.codeIn K cd_Lnumber "_law_number" = true)
    (k_Lnumber : PySem.W.keepIn K (.ref f_Lnumber) = true)
    (a_Lrows : PySem.W.nsIn K mainGlobals "_law_rows" = some (some (.ref f_Lrows)))
    (l_Lrows : K.lookup f_Lrows = some ⟨oc_Lrows, od_Lrows, .func (PySem.W.fnOf "_law_rows" "_law_rows" (defArgs s__law_rows) (defBody s__law_rows) (defScope s__law_rows) .none kV_Lrows dc_Lrows pm_Lrows an_Lrows cd_Lrows ct_Lrows), sl_Lrows⟩)
    (c_Lrows : PySem.W.codeIn K cd_Lrows "_law_rows" = true)
    (k_Lrows : PySem.W.keepIn K (.ref f_Lrows) = true)
    (a_Lis : PySem.W.nsIn K mainGlobals "_law_is" = some (some (.ref f_Lis)))
    (l_Lis : K.lookup f_Lis = some ⟨oc_Lis, od_Lis, .func (PySem.W.fnOf "_law_is" "_law_is" (defArgs s__law_is) (defBody s__law_is) (defScope s__law_is) .none kV_Lis dc_Lis pm_Lis an_Lis cd_Lis ct_Lis), sl_Lis⟩)
    (c_Lis : PySem.W.codeIn K cd_Lis "_law_is" = true)
    (k_Lis : PySem.W.keepIn K (.ref f_Lis) = true)
    (a_Lpieces_right : PySem.W.nsIn K mainGlobals "_law_pieces_right" = some (some (.ref f_Lpieces_right)))
    (l_Lpieces_right : K.lookup f_Lpieces_right = some ⟨oc_Lpieces_right, od_Lpieces_right, .func (PySem.W.fnOf "_law_pieces_right" "_law_pieces_right" (defArgs s__law_pieces_right) (defBody s__law_pieces_right) (defScope s__law_pieces_right) .none kV_Lpieces_right dc_Lpieces_right pm_Lpieces_right an_Lpieces_right cd_Lpieces_right ct_Lpieces_right), sl_Lpieces_right⟩)
    (c_Lpieces_right : PySem.W.codeIn K cd_Lpieces_right "_law_pieces_right" = true)
    (k_Lpieces_right : PySem.W.keepIn K (.ref f_Lpieces_right) = true)
    (a_Lrows_right : PySem.W.nsIn K mainGlobals "_law_rows_right" = some (some (.ref f_Lrows_right)))
    (l_Lrows_right : K.lookup f_Lrows_right = some ⟨oc_Lrows_right, od_Lrows_right, .func (PySem.W.fnOf "_law_rows_right" "_law_rows_right" (defArgs s__law_rows_right) (defBody s__law_rows_right) (defScope s__law_rows_right) .none kV_Lrows_right dc_Lrows_right pm_Lrows_right an_Lrows_right cd_Lrows_right ct_Lrows_right), sl_Lrows_right⟩)
    (c_Lrows_right : PySem.W.codeIn K cd_Lrows_right "_law_rows_right" = true)
    (k_Lrows_right : PySem.W.keepIn K (.ref f_Lrows_right) = true)
    (a_Lis_number : PySem.W.nsIn K mainGlobals "_law_is_number" = some (some (.ref f_Lis_number)))
    (l_Lis_number : K.lookup f_Lis_number = some ⟨oc_Lis_number, od_Lis_number, .func (PySem.W.fnOf "_law_is_number" "_law_is_number" (defArgs s__law_is_number) (defBody s__law_is_number) (defScope s__law_is_number) .none kV_Lis_number dc_Lis_number pm_Lis_number an_Lis_number cd_Lis_number ct_Lis_number), sl_Lis_number⟩)
    (c_Lis_number : PySem.W.codeIn K cd_Lis_number "_law_is_number" = true)
    (k_Lis_number : PySem.W.keepIn K (.ref f_Lis_number) = true)
    (a_Lare_rows : PySem.W.nsIn K mainGlobals "_law_are_rows" = some (some (.ref f_Lare_rows)))
    (l_Lare_rows : K.lookup f_Lare_rows = some ⟨oc_Lare_rows, od_Lare_rows, .func (PySem.W.fnOf "_law_are_rows" "_law_are_rows" (defArgs s__law_are_rows) (defBody s__law_are_rows) (defScope s__law_are_rows) .none kV_Lare_rows dc_Lare_rows pm_Lare_rows an_Lare_rows cd_Lare_rows ct_Lare_rows), sl_Lare_rows⟩)
    (c_Lare_rows : PySem.W.codeIn K cd_Lare_rows "_law_are_rows" = true)
    (k_Lare_rows : PySem.W.keepIn K (.ref f_Lare_rows) = true)
    (a_Lheard : PySem.W.nsIn K mainGlobals "_law_heard" = some (some (.ref f_Lheard)))
    (l_Lheard : K.lookup f_Lheard = some ⟨oc_Lheard, od_Lheard, .func (PySem.W.fnOf "_law_heard" "_law_heard" (defArgs s__law_heard) (defBody s__law_heard) (defScope s__law_heard) .none kV_Lheard dc_Lheard pm_Lheard an_Lheard cd_Lheard ct_Lheard), sl_Lheard⟩)
    (c_Lheard : PySem.W.codeIn K cd_Lheard "_law_heard" = true)
    (k_Lheard : PySem.W.keepIn K (.ref f_Lheard) = true)
    (a_Lany_right : PySem.W.nsIn K mainGlobals "_law_any_right" = some (some (.ref f_Lany_right)))
    (l_Lany_right : K.lookup f_Lany_right = some ⟨oc_Lany_right, od_Lany_right, .func (PySem.W.fnOf "_law_any_right" "_law_any_right" (defArgs s__law_any_right) (defBody s__law_any_right) (defScope s__law_any_right) .none kV_Lany_right dc_Lany_right pm_Lany_right an_Lany_right cd_Lany_right ct_Lany_right), sl_Lany_right⟩)
    (c_Lany_right : PySem.W.codeIn K cd_Lany_right "_law_any_right" = true)
    (k_Lany_right : PySem.W.keepIn K (.ref f_Lany_right) = true)
    (a_Ldraw : PySem.W.nsIn K mainGlobals "_law_draw" = some (some (.ref f_Ldraw)))
    (l_Ldraw : K.lookup f_Ldraw = some ⟨oc_Ldraw, od_Ldraw, .func (PySem.W.fnOf "_law_draw" "_law_draw" (defArgs s_draw) (defBody s_draw) (defScope s_draw) .none kV_Ldraw dc_Ldraw pm_Ldraw an_Ldraw cd_Ldraw ct_Ldraw), sl_Ldraw⟩)
    (c_Ldraw : PySem.W.codeIn K cd_Ldraw "_law_draw" = true)
    (k_Ldraw : PySem.W.keepIn K (.ref f_Ldraw) = true)
    (a_Lpot : PySem.W.nsIn K mainGlobals "_law_pot" = some (some (.ref f_Lpot)))
    (l_Lpot : K.lookup f_Lpot = some ⟨oc_Lpot, od_Lpot, .func (PySem.W.fnOf "_law_pot" "_law_pot" (defArgs s_pot) (defBody s_pot) (defScope s_pot) .none kV_Lpot dc_Lpot pm_Lpot an_Lpot cd_Lpot ct_Lpot), sl_Lpot⟩)
    (c_Lpot : PySem.W.codeIn K cd_Lpot "_law_pot" = true)
    (k_Lpot : PySem.W.keepIn K (.ref f_Lpot) = true)
    (a_isInt : PySem.W.nsIn K mainGlobals "is_integer" = some (some (.ref f_isInt)))
    (l_isInt : K.lookup f_isInt = some ⟨oc_isInt, od_isInt, .func (PySem.W.fnOf "is_integer" "is_integer" (defArgs s_isInt) (defBody s_isInt) (defScope s_isInt) .none kV_isInt dc_isInt pm_isInt an_isInt cd_isInt ct_isInt), sl_isInt⟩)
    (c_isInt : PySem.W.codeIn K cd_isInt "is_integer" = true)
    (k_isInt : PySem.W.keepIn K (.ref f_isInt) = true)
    (a_isNum : PySem.W.nsIn K mainGlobals "is_number" = some (some (.ref f_isNum)))
    (l_isNum : K.lookup f_isNum = some ⟨oc_isNum, od_isNum, .func (PySem.W.fnOf "is_number" "is_number" (defArgs s_isNum) (defBody s_isNum) (defScope s_isNum) .none kV_isNum dc_isNum pm_isNum an_isNum cd_isNum ct_isNum), sl_isNum⟩)
    (c_isNum : PySem.W.codeIn K cd_isNum "is_number" = true)
    (k_isNum : PySem.W.keepIn K (.ref f_isNum) = true)
    (a_need : PySem.W.nsIn K mainGlobals "need_number" = some (some (.ref f_need)))
    (l_need : K.lookup f_need = some ⟨oc_need, od_need, .func (PySem.W.fnOf "need_number" "need_number" (defArgs s_need) (defBody s_need) (defScope s_need) .none kV_need dc_need pm_need an_need cd_need ct_need), sl_need⟩)
    (c_need : PySem.W.codeIn K cd_need "need_number" = true)
    (k_need : PySem.W.keepIn K (.ref f_need) = true)
    (a_tb : PySem.W.nsIn K mainGlobals "top_and_bottom" = some (some (.ref f_tb)))
    (l_tb : K.lookup f_tb = some ⟨oc_tb, od_tb, .func (PySem.W.fnOf "top_and_bottom" "top_and_bottom" (defArgs s_tb) (defBody s_tb) (defScope s_tb) .none kV_tb dc_tb pm_tb an_tb cd_tb ct_tb), sl_tb⟩)
    (c_tb : PySem.W.codeIn K cd_tb "top_and_bottom" = true)
    (k_tb : PySem.W.keepIn K (.ref f_tb) = true)
    (a_law : PySem.W.nsIn K mainGlobals "law" = some (some (.ref f_law)))
    (l_law : K.lookup f_law = some ⟨oc_law, od_law, .func (PySem.W.fnOf "law" "law" (defArgs s_law) (defBody s_law) (defScope s_law) .none kV_law dc_law pm_law an_law cd_law ct_law), sl_law⟩)
    (c_law : PySem.W.codeIn K cd_law "law" = true)
    (k_law : PySem.W.keepIn K (.ref f_law) = true)
    (a_Rinit : PySem.W.findIn K (.ref C) "__init__" = some (some (.ref f_Rinit)))
    (i_Rinit : PySem.W.isFn K (.ref f_Rinit) = true)
    (l_Rinit : K.lookup f_Rinit = some ⟨oc_Rinit, od_Rinit, .func (PySem.W.fnOf "__init__" "Ratio.__init__" (defArgs s_Rinit) (defBody s_Rinit) (defScope s_Rinit) (.ref T1) kV_Rinit dc_Rinit pm_Rinit an_Rinit cd_Rinit ct_Rinit), sl_Rinit⟩)
    (c_Rinit : PySem.W.codeIn K cd_Rinit "Ratio.__init__" = true)
    (k_Rinit : PySem.W.keepIn K (.ref f_Rinit) = true)
    (lT : K.lookup T1 = some ⟨ocT, odT, .seq [Value.int 1 tk1].toArray nT, slT⟩)
    (a_Rtop : PySem.W.findIn K (.ref C) "top" = some (some (.ref p_Rtop)))
    (gg_Rtop : PySem.W.specialIn K (.ref p_Rtop) "__get__" = some (some (.builtin "property.__get__")))
    (t_Rtop : PySem.W.takesIn K (.ref p_Rtop) = some true)
    (e_Rtop : PySem.W.recIn K p_Rtop "property" = some (.ref f_Rtop :: r_Rtop))
    (l_Rtop : K.lookup f_Rtop = some ⟨oc_Rtop, od_Rtop, .func (PySem.W.fnOf "top" "Ratio.top" (defArgs s_Rtop) (defBody s_Rtop) (defScope s_Rtop) .none kV_Rtop dc_Rtop pm_Rtop an_Rtop cd_Rtop ct_Rtop), sl_Rtop⟩)
    (c_Rtop : PySem.W.codeIn K cd_Rtop "Ratio.top" = true)
    (k_Rtop : PySem.W.keepIn K (.ref f_Rtop) = true)
    (a_Rbottom : PySem.W.findIn K (.ref C) "bottom" = some (some (.ref p_Rbottom)))
    (gg_Rbottom : PySem.W.specialIn K (.ref p_Rbottom) "__get__" = some (some (.builtin "property.__get__")))
    (t_Rbottom : PySem.W.takesIn K (.ref p_Rbottom) = some true)
    (e_Rbottom : PySem.W.recIn K p_Rbottom "property" = some (.ref f_Rbottom :: r_Rbottom))
    (l_Rbottom : K.lookup f_Rbottom = some ⟨oc_Rbottom, od_Rbottom, .func (PySem.W.fnOf "bottom" "Ratio.bottom" (defArgs s_Rbottom) (defBody s_Rbottom) (defScope s_Rbottom) .none kV_Rbottom dc_Rbottom pm_Rbottom an_Rbottom cd_Rbottom ct_Rbottom), sl_Rbottom⟩)
    (c_Rbottom : PySem.W.codeIn K cd_Rbottom "Ratio.bottom" = true)
    (k_Rbottom : PySem.W.keepIn K (.ref f_Rbottom) = true)
    (a_Req : PySem.W.findIn K (.ref C) "__eq__" = some (some (.ref f_Req)))
    (i_Req : PySem.W.isFn K (.ref f_Req) = true)
    (l_Req : K.lookup f_Req = some ⟨oc_Req, od_Req, .func (PySem.W.fnOf "__eq__" "Ratio.__eq__" (defArgs s_Req) (defBody s_Req) (defScope s_Req) .none kV_Req dc_Req pm_Req an_Req cd_Req ct_Req), sl_Req⟩)
    (c_Req : PySem.W.codeIn K cd_Req "Ratio.__eq__" = true)
    (k_Req : PySem.W.keepIn K (.ref f_Req) = true)
    (a_Rrepr : PySem.W.findIn K (.ref C) "__repr__" = some (some (.ref f_Rrepr)))
    (i_Rrepr : PySem.W.isFn K (.ref f_Rrepr) = true)
    (l_Rrepr : K.lookup f_Rrepr = some ⟨oc_Rrepr, od_Rrepr, .func (PySem.W.fnOf "__repr__" "Ratio.__repr__" (defArgs s_Rrepr) (defBody s_Rrepr) (defScope s_Rrepr) .none kV_Rrepr dc_Rrepr pm_Rrepr an_Rrepr cd_Rrepr ct_Rrepr), sl_Rrepr⟩)
    (c_Rrepr : PySem.W.codeIn K cd_Rrepr "Ratio.__repr__" = true)
    (k_Rrepr : PySem.W.keepIn K (.ref f_Rrepr) = true)
    (mk : PySem.W.makesIn K C = true)
    (kC : PySem.W.keepIn K (.ref C) = true)
    (pg : PySem.W.plainGet K C Str.empty = true)
    (hd : PySem.W.hasDictIn K C = true)
    (po : PySem.W.plainOver K C = true)
    (sa : PySem.W.findIn K (.ref C) "__setattr__" = some (some (.builtin "object.__setattr__")))
    (nt : PySem.W.findIn K (.ref C) "_top" = some none)
    (nb : PySem.W.findIn K (.ref C) "_bottom" = some none)
    (clA : PySem.W.findIn K (.ref C) "__class__" = some (some (.builtin "object.__class__")))
    (clN : PySem.W.specialIn K (.builtin "object.__class__") "__get__" = some (some (.builtin "getset_descriptor.__get__")))
    (clT : PySem.W.takesIn K (.builtin "object.__class__") = some true)
    (clM : PySem.W.mroIn K C (.type "object") = some true)
    (isC : PySem.W.isClsIn K C = true)
    (tyC : PySem.W.typeIn K (.ref C) = some (.type "type"))
    (gcd : PySem.W.nsIn K mainGlobals "gcd" = some (some (.builtin "math.gcd")))
    (sf : PySem.W.selfFirst K C = true)
    (nf1 : PySem.W.notFirst K C (.type "int") = true)
    (nf2 : PySem.W.notFirst K C (.ref C) = true)
    (neC : PySem.W.findIn K (.ref C) "__ne__" = some (some (.builtin "object.__ne__")))
    (su_int : PySem.W.subIn K (.ref C) (.type "int") = some false)
    (su_bool : PySem.W.subIn K (.ref C) (.type "bool") = some false)
    (su_str : PySem.W.subIn K (.ref C) (.type "str") = some false)
    (su_tuple : PySem.W.subIn K (.ref C) (.type "tuple") = some false)
    (su_list : PySem.W.subIn K (.ref C) (.type "list") = some false)
    (su_NoneType : PySem.W.subIn K (.ref C) (.type "NoneType") = some false)
    (su_dict : PySem.W.subIn K (.ref C) (.type "dict") = some false)
    (us_int : PySem.W.subIn K (.type "int") (.ref C) = some false)
    (us_bool : PySem.W.subIn K (.type "bool") (.ref C) = some false)
    (us_str : PySem.W.subIn K (.type "str") (.ref C) = some false)
    (us_tuple : PySem.W.subIn K (.type "tuple") (.ref C) = some false)
    (us_list : PySem.W.subIn K (.type "list") (.ref C) = some false)
    (us_NoneType : PySem.W.subIn K (.type "NoneType") (.ref C) = some false)
    (us_dict : PySem.W.subIn K (.type "dict") (.ref C) = some false)
    (aC_Table : PySem.W.nsIn K mainGlobals "Table" = some (some (.ref CTable)))
    (a_Table_init : PySem.W.findIn K (.ref CTable) "__init__" = some (some (.ref f_Table_init)))
    (i_Table_init : PySem.W.isFn K (.ref f_Table_init) = true)
    (l_Table_init : K.lookup f_Table_init = some ⟨oc_Table_init, od_Table_init, .func (PySem.W.fnOf "__init__" "Table.__init__" (defArgs s_Table_init) (defBody s_Table_init) (defScope s_Table_init) .none kV_Table_init dc_Table_init pm_Table_init an_Table_init cd_Table_init ct_Table_init), sl_Table_init⟩)
    (c_Table_init : PySem.W.codeIn K cd_Table_init "Table.__init__" = true)
    (k_Table_init : PySem.W.keepIn K (.ref f_Table_init) = true)
    (a_Table_columns : PySem.W.findIn K (.ref CTable) "columns" = some (some (.ref p_Table_columns)))
    (gg_Table_columns : PySem.W.specialIn K (.ref p_Table_columns) "__get__" = some (some (.builtin "property.__get__")))
    (t_Table_columns : PySem.W.takesIn K (.ref p_Table_columns) = some true)
    (e_Table_columns : PySem.W.recIn K p_Table_columns "property" = some (.ref f_Table_columns :: r_Table_columns))
    (l_Table_columns : K.lookup f_Table_columns = some ⟨oc_Table_columns, od_Table_columns, .func (PySem.W.fnOf "columns" "Table.columns" (defArgs s_Table_columns) (defBody s_Table_columns) (defScope s_Table_columns) .none kV_Table_columns dc_Table_columns pm_Table_columns an_Table_columns cd_Table_columns ct_Table_columns), sl_Table_columns⟩)
    (c_Table_columns : PySem.W.codeIn K cd_Table_columns "Table.columns" = true)
    (k_Table_columns : PySem.W.keepIn K (.ref f_Table_columns) = true)
    (a_Table_height : PySem.W.findIn K (.ref CTable) "height" = some (some (.ref p_Table_height)))
    (gg_Table_height : PySem.W.specialIn K (.ref p_Table_height) "__get__" = some (some (.builtin "property.__get__")))
    (t_Table_height : PySem.W.takesIn K (.ref p_Table_height) = some true)
    (e_Table_height : PySem.W.recIn K p_Table_height "property" = some (.ref f_Table_height :: r_Table_height))
    (l_Table_height : K.lookup f_Table_height = some ⟨oc_Table_height, od_Table_height, .func (PySem.W.fnOf "height" "Table.height" (defArgs s_Table_height) (defBody s_Table_height) (defScope s_Table_height) .none kV_Table_height dc_Table_height pm_Table_height an_Table_height cd_Table_height ct_Table_height), sl_Table_height⟩)
    (c_Table_height : PySem.W.codeIn K cd_Table_height "Table.height" = true)
    (k_Table_height : PySem.W.keepIn K (.ref f_Table_height) = true)
    (a_Table_rows : PySem.W.findIn K (.ref CTable) "rows" = some (some (.ref f_Table_rows)))
    (i_Table_rows : PySem.W.isFn K (.ref f_Table_rows) = true)
    (l_Table_rows : K.lookup f_Table_rows = some ⟨oc_Table_rows, od_Table_rows, .func (PySem.W.fnOf "rows" "Table.rows" (defArgs s_Table_rows) (defBody s_Table_rows) (defScope s_Table_rows) .none kV_Table_rows dc_Table_rows pm_Table_rows an_Table_rows cd_Table_rows ct_Table_rows), sl_Table_rows⟩)
    (c_Table_rows : PySem.W.codeIn K cd_Table_rows "Table.rows" = true)
    (k_Table_rows : PySem.W.keepIn K (.ref f_Table_rows) = true)
    (a_Table_eq : PySem.W.findIn K (.ref CTable) "__eq__" = some (some (.ref f_Table_eq)))
    (i_Table_eq : PySem.W.isFn K (.ref f_Table_eq) = true)
    (l_Table_eq : K.lookup f_Table_eq = some ⟨oc_Table_eq, od_Table_eq, .func (PySem.W.fnOf "__eq__" "Table.__eq__" (defArgs s_Table_eq) (defBody s_Table_eq) (defScope s_Table_eq) .none kV_Table_eq dc_Table_eq pm_Table_eq an_Table_eq cd_Table_eq ct_Table_eq), sl_Table_eq⟩)
    (c_Table_eq : PySem.W.codeIn K cd_Table_eq "Table.__eq__" = true)
    (k_Table_eq : PySem.W.keepIn K (.ref f_Table_eq) = true)
    (mk_Table : PySem.W.makesIn K CTable = true)
    (kC_Table : PySem.W.keepIn K (.ref CTable) = true)
    (pg_Table : PySem.W.plainGet K CTable Str.empty = true)
    (hd_Table : PySem.W.hasDictIn K CTable = true)
    (po_Table : PySem.W.plainOver K CTable = true)
    (sa_Table : PySem.W.findIn K (.ref CTable) "__setattr__" = some (some (.builtin "object.__setattr__")))
    (clA_Table : PySem.W.findIn K (.ref CTable) "__class__" = some (some (.builtin "object.__class__")))
    (clM_Table : PySem.W.mroIn K CTable (.type "object") = some true)
    (isC_Table : PySem.W.isClsIn K CTable = true)
    (tyC_Table : PySem.W.typeIn K (.ref CTable) = some (.type "type"))
    (no_Table_columns : PySem.W.findIn K (.ref CTable) "_columns" = some none)
    (no_Table_rows : PySem.W.findIn K (.ref CTable) "_rows" = some none)
    (nf1_Table : PySem.W.notFirst K CTable (.type "int") = true)
    (nf2_Table : PySem.W.notFirst K CTable (.ref CTable) = true)
    (neC_Table : PySem.W.findIn K (.ref CTable) "__ne__" = some (some (.builtin "object.__ne__")))
    (nl_Table : PySem.W.notFirst K CTable (.type "list") = true)
    (su_int_Table : PySem.W.subIn K (.ref CTable) (.type "int") = some false)
    (su_bool_Table : PySem.W.subIn K (.ref CTable) (.type "bool") = some false)
    (su_str_Table : PySem.W.subIn K (.ref CTable) (.type "str") = some false)
    (su_tuple_Table : PySem.W.subIn K (.ref CTable) (.type "tuple") = some false)
    (su_list_Table : PySem.W.subIn K (.ref CTable) (.type "list") = some false)
    (su_NoneType_Table : PySem.W.subIn K (.ref CTable) (.type "NoneType") = some false)
    (su_dict_Table : PySem.W.subIn K (.ref CTable) (.type "dict") = some false)
    (us_int_Table : PySem.W.subIn K (.type "int") (.ref CTable) = some false)
    (us_bool_Table : PySem.W.subIn K (.type "bool") (.ref CTable) = some false)
    (us_str_Table : PySem.W.subIn K (.type "str") (.ref CTable) = some false)
    (us_tuple_Table : PySem.W.subIn K (.type "tuple") (.ref CTable) = some false)
    (us_list_Table : PySem.W.subIn K (.type "list") (.ref CTable) = some false)
    (us_NoneType_Table : PySem.W.subIn K (.type "NoneType") (.ref CTable) = some false)
    (us_dict_Table : PySem.W.subIn K (.type "dict") (.ref CTable) = some false)
    (rr_Ratio_Table : PySem.W.subIn K (.ref C) (.ref CTable) = some false)
    (rr_Table_Ratio : PySem.W.subIn K (.ref CTable) (.ref C) = some false)
    (nc_Table_Ratio : PySem.W.findIn K (.ref C) "columns" = some none)
    (z_abs : PySem.W.nsIn K mainGlobals "abs" = some none)
    (z_all : PySem.W.nsIn K mainGlobals "all" = some none)
    (z_bool : PySem.W.nsIn K mainGlobals "bool" = some none)
    (z_divmod : PySem.W.nsIn K mainGlobals "divmod" = some none)
    (z_int : PySem.W.nsIn K mainGlobals "int" = some none)
    (z_isinstance : PySem.W.nsIn K mainGlobals "isinstance" = some none)
    (z_len : PySem.W.nsIn K mainGlobals "len" = some none)
    (z_list : PySem.W.nsIn K mainGlobals "list" = some none)
    (z_max : PySem.W.nsIn K mainGlobals "max" = some none)
    (z_range : PySem.W.nsIn K mainGlobals "range" = some none)
    (z_repr : PySem.W.nsIn K mainGlobals "repr" = some none)
    (z_tuple : PySem.W.nsIn K mainGlobals "tuple" = some none)
    (v_MOST_COLUMNS : PySem.W.nsIn K mainGlobals "MOST_COLUMNS" = some (some (.int 3 t_MOST_COLUMNS)))
    (v_MOST_ROWS : PySem.W.nsIn K mainGlobals "MOST_ROWS" = some (some (.int 40 t_MOST_ROWS)))
    (aE_InvalidColumns : PySem.W.nsIn K mainGlobals "InvalidColumns" = some (some (.ref E_InvalidColumns)))
    (xm_InvalidColumns : exMB K E_InvalidColumns "ValueError" = true)
    (a_InvalidColumns_init : PySem.W.findIn K (.ref E_InvalidColumns) "__init__" = some (some (.ref f_InvalidColumns_init)))
    (tE_InvalidColumns : PySem.W.typeIn K (.ref f_InvalidColumns_init) = some (.type "function"))
    (nE_InvalidColumns_value : PySem.W.findIn K (.ref E_InvalidColumns) "value" = some none)
    (l_InvalidColumns_init : K.lookup f_InvalidColumns_init = some ⟨oc_InvalidColumns_init, od_InvalidColumns_init, .func (PySem.W.fnOf "__init__" "InvalidColumns.__init__" (defArgs s_InvalidColumns_init) (defBody s_InvalidColumns_init) (defScope s_InvalidColumns_init) .none kV_InvalidColumns_init dc_InvalidColumns_init pm_InvalidColumns_init an_InvalidColumns_init cd_InvalidColumns_init ct_InvalidColumns_init), sl_InvalidColumns_init⟩)
    (c_InvalidColumns_init : PySem.W.codeIn K cd_InvalidColumns_init "InvalidColumns.__init__" = true)
    (k_InvalidColumns_init : PySem.W.keepIn K (.ref f_InvalidColumns_init) = true)
    (aE_InvalidRows : PySem.W.nsIn K mainGlobals "InvalidRows" = some (some (.ref E_InvalidRows)))
    (xm_InvalidRows : exMB K E_InvalidRows "ValueError" = true)
    (a_InvalidRows_init : PySem.W.findIn K (.ref E_InvalidRows) "__init__" = some (some (.ref f_InvalidRows_init)))
    (tE_InvalidRows : PySem.W.typeIn K (.ref f_InvalidRows_init) = some (.type "function"))
    (nE_InvalidRows_value : PySem.W.findIn K (.ref E_InvalidRows) "value" = some none)
    (l_InvalidRows_init : K.lookup f_InvalidRows_init = some ⟨oc_InvalidRows_init, od_InvalidRows_init, .func (PySem.W.fnOf "__init__" "InvalidRows.__init__" (defArgs s_InvalidRows_init) (defBody s_InvalidRows_init) (defScope s_InvalidRows_init) .none kV_InvalidRows_init dc_InvalidRows_init pm_InvalidRows_init an_InvalidRows_init cd_InvalidRows_init ct_InvalidRows_init), sl_InvalidRows_init⟩)
    (c_InvalidRows_init : PySem.W.codeIn K cd_InvalidRows_init "InvalidRows.__init__" = true)
    (k_InvalidRows_init : PySem.W.keepIn K (.ref f_InvalidRows_init) = true)
    (xi_InvalidRows : exIB K E_InvalidRows = true)
    (xt : exTab K exAll ["InvalidRows"] = true)
    : ∃ fd : FuncData, (∀ (s : Shared) (v : Value), BindsTo s fd ⟨[v], []⟩ [("_law_script", v)]) ∧ ∀ base : Heap, K.In base → base.Ns mainGlobals mg → FnG l.prog w K mg base CX0 30 fa fd ["_law_script"] (spL K) := by
  have e := hfa.symm.trans (PySem.W.mg_of X G a_law)
  cases e
  have F_is_count := fun_mk (st := s_is_count) l_is_count c_is_count k_is_count
  have B_is_count := F_is_count.binds (ps := ["value"]) fun _ _ _ _ _ _ us hl => match us, hl with | [_], _ => rfl
  have m_is_count := PySem.W.mg_of X G a_is_count
  have F_is_count_to := fun_mk (st := s_is_count_to) l_is_count_to c_is_count_to k_is_count_to
  have B_is_count_to := F_is_count_to.binds (ps := ["value", "most"]) fun _ _ _ _ _ _ us hl => match us, hl with | [_, _], _ => rfl
  have m_is_count_to := PySem.W.mg_of X G a_is_count_to
  have F_is_list := fun_mk (st := s_is_list) l_is_list c_is_list k_is_list
  have B_is_list := F_is_list.binds (ps := ["value"]) fun _ _ _ _ _ _ us hl => match us, hl with | [_], _ => rfl
  have m_is_list := PySem.W.mg_of X G a_is_list
  have F_need_columns := fun_mk (st := s_need_columns) l_need_columns c_need_columns k_need_columns
  have B_need_columns := F_need_columns.binds (ps := ["columns"]) fun _ _ _ _ _ _ us hl => match us, hl with | [_], _ => rfl
  have m_need_columns := PySem.W.mg_of X G a_need_columns
  have F_as_ratio := fun_mk (st := s_as_ratio) l_as_ratio c_as_ratio k_as_ratio
  have B_as_ratio := F_as_ratio.binds (ps := ["number"]) fun _ _ _ _ _ _ us hl => match us, hl with | [_], _ => rfl
  have m_as_ratio := PySem.W.mg_of X G a_as_ratio
  have F_are_numbers := fun_mk (st := s_are_numbers) l_are_numbers c_are_numbers k_are_numbers
  have B_are_numbers := F_are_numbers.binds (ps := ["value", "many"]) fun _ _ _ _ _ _ us hl => match us, hl with | [_, _], _ => rfl
  have m_are_numbers := PySem.W.mg_of X G a_are_numbers
  have F_are_rows := fun_mk (st := s_are_rows) l_are_rows c_are_rows k_are_rows
  have B_are_rows := F_are_rows.binds (ps := ["columns", "value"]) fun _ _ _ _ _ _ us hl => match us, hl with | [_, _], _ => rfl
  have m_are_rows := PySem.W.mg_of X G a_are_rows
  have F_need_like_columns := fun_mk (st := s_need_like_columns) l_need_like_columns c_need_like_columns k_need_like_columns
  have B_need_like_columns := F_need_like_columns.binds (ps := ["first", "second"]) fun _ _ _ _ _ _ us hl => match us, hl with | [_, _], _ => rfl
  have m_need_like_columns := PySem.W.mg_of X G a_need_like_columns
  have F_need_table := fun_mk (st := s_need_table) l_need_table c_need_table k_need_table
  have B_need_table := F_need_table.binds (ps := ["table"]) fun _ _ _ _ _ _ us hl => match us, hl with | [_], _ => rfl
  have m_need_table := PySem.W.mg_of X G a_need_table
  have F_need_row := fun_mk (st := s_need_row) l_need_row c_need_row k_need_row
  have B_need_row := F_need_row.binds (ps := ["columns", "row"]) fun _ _ _ _ _ _ us hl => match us, hl with | [_, _], _ => rfl
  have m_need_row := PySem.W.mg_of X G a_need_row
  have F_need_position := fun_mk (st := s_need_position) l_need_position c_need_position k_need_position
  have B_need_position := F_need_position.binds (ps := ["position", "most"]) fun _ _ _ _ _ _ us hl => match us, hl with | [_, _], _ => rfl
  have m_need_position := PySem.W.mg_of X G a_need_position
  have F_need_place_for_rows := fun_mk (st := s_need_place_for_rows) l_need_place_for_rows c_need_place_for_rows k_need_place_for_rows
  have B_need_place_for_rows := F_need_place_for_rows.binds (ps := ["many"]) fun _ _ _ _ _ _ us hl => match us, hl with | [_], _ => rfl
  have m_need_place_for_rows := PySem.W.mg_of X G a_need_place_for_rows
  have F_joined := fun_mk (st := s_joined) l_joined c_joined k_joined
  have B_joined := F_joined.binds (ps := ["table", "other"]) fun _ _ _ _ _ _ us hl => match us, hl with | [_, _], _ => rfl
  have m_joined := PySem.W.mg_of X G a_joined
  have F_turned := fun_mk (st := s_turned) l_turned c_turned k_turned
  have B_turned := F_turned.binds (ps := ["table"]) fun _ _ _ _ _ _ us hl => match us, hl with | [_], _ => rfl
  have m_turned := PySem.W.mg_of X G a_turned
  have F_piece := fun_mk (st := s_piece) l_piece c_piece k_piece
  have B_piece := F_piece.binds (ps := ["table", "low", "high"]) fun _ _ _ _ _ _ us hl => match us, hl with | [_, _, _], _ => rfl
  have m_piece := PySem.W.mg_of X G a_piece
  have F_with_row := fun_mk (st := s_with_row) l_with_row c_with_row k_with_row
  have B_with_row := F_with_row.binds (ps := ["table", "position", "row"]) fun _ _ _ _ _ _ us hl => match us, hl with | [_, _, _], _ => rfl
  have m_with_row := PySem.W.mg_of X G a_with_row
  have F_without_row := fun_mk (st := s_without_row) l_without_row c_without_row k_without_row
  have B_without_row := F_without_row.binds (ps := ["table", "position"]) fun _ _ _ _ _ _ us hl => match us, hl with | [_, _], _ => rfl
  have m_without_row := PySem.W.mg_of X G a_without_row
  have F_exchanged := fun_mk (st := s_exchanged) l_exchanged c_exchanged k_exchanged
  have B_exchanged := F_exchanged.binds (ps := ["table", "position"]) fun _ _ _ _ _ _ us hl => match us, hl with | [_, _], _ => rfl
  have m_exchanged := PySem.W.mg_of X G a_exchanged
  have F_Lpick := fun_mk (st := s__law_pick) l_Lpick c_Lpick k_Lpick
  have B_Lpick := F_Lpick.binds (ps := ["_law_pot_here", "_law_some"]) fun _ _ _ _ _ _ us hl => match us, hl with | [_, _], _ => rfl
  have m_Lpick := PySem.W.mg_of X G a_Lpick
  have F_Llow := fun_mk (st := s__law_low) l_Llow c_Llow k_Llow
  have B_Llow := F_Llow.binds (ps := ["_law_top", "_law_bottom"]) fun _ _ _ _ _ _ us hl => match us, hl with | [_, _], _ => rfl
  have m_Llow := PySem.W.mg_of X G a_Llow
  have F_Lpair := fun_mk (st := s__law_pair) l_Lpair c_Lpair k_Lpair
  have B_Lpair := F_Lpair.binds (ps := ["_law_ratio"]) fun _ _ _ _ _ _ us hl => match us, hl with | [_], _ => rfl
  have m_Lpair := PySem.W.mg_of X G a_Lpair
  have F_Lnumber := fun_mk (st := s__law_number) l_Lnumber c_Lnumber k_Lnumber
  have B_Lnumber := F_Lnumber.binds (ps := ["_law_pot_here"]) fun _ _ _ _ _ _ us hl => match us, hl with | [_], _ => rfl
  have m_Lnumber := PySem.W.mg_of X G a_Lnumber
  have F_Lrows := fun_mk (st := s__law_rows) l_Lrows c_Lrows k_Lrows
  have B_Lrows := F_Lrows.binds (ps := ["_law_pot_here", "_law_wide", "_law_height"]) fun _ _ _ _ _ _ us hl => match us, hl with | [_, _, _], _ => rfl
  have m_Lrows := PySem.W.mg_of X G a_Lrows
  have F_Lis := fun_mk (st := s__law_is) l_Lis c_Lis k_Lis
  have B_Lis := F_Lis.binds (ps := ["_law_table", "_law_wide", "_law_pairs"]) fun _ _ _ _ _ _ us hl => match us, hl with | [_, _, _], _ => rfl
  have m_Lis := PySem.W.mg_of X G a_Lis
  have F_Lpieces_right := fun_mk (st := s__law_pieces_right) l_Lpieces_right c_Lpieces_right k_Lpieces_right
  have B_Lpieces_right := F_Lpieces_right.binds (ps := ["_law_pot_here", "_law_table", "_law_wide", "_law_pairs"]) fun _ _ _ _ _ _ us hl => match us, hl with | [_, _, _, _], _ => rfl
  have m_Lpieces_right := PySem.W.mg_of X G a_Lpieces_right
  have F_Lrows_right := fun_mk (st := s__law_rows_right) l_Lrows_right c_Lrows_right k_Lrows_right
  have B_Lrows_right := F_Lrows_right.binds (ps := ["_law_pot_here", "_law_table", "_law_wide", "_law_pairs", "_law_row", "_law_told"]) fun _ _ _ _ _ _ us hl => match us, hl with | [_, _, _, _, _, _], _ => rfl
  have m_Lrows_right := PySem.W.mg_of X G a_Lrows_right
  have F_Lis_number := fun_mk (st := s__law_is_number) l_Lis_number c_Lis_number k_Lis_number
  have B_Lis_number := F_Lis_number.binds (ps := ["_law_value"]) fun _ _ _ _ _ _ us hl => match us, hl with | [_], _ => rfl
  have m_Lis_number := PySem.W.mg_of X G a_Lis_number
  have F_Lare_rows := fun_mk (st := s__law_are_rows) l_Lare_rows c_Lare_rows k_Lare_rows
  have B_Lare_rows := F_Lare_rows.binds (ps := ["_law_wide", "_law_value"]) fun _ _ _ _ _ _ us hl => match us, hl with | [_, _], _ => rfl
  have m_Lare_rows := PySem.W.mg_of X G a_Lare_rows
  have F_Lheard := fun_mk (st := s__law_heard) l_Lheard c_Lheard k_Lheard
  have B_Lheard := F_Lheard.binds (ps := ["_law_wide", "_law_value"]) fun _ _ _ _ _ _ us hl => match us, hl with | [_, _], _ => rfl
  have m_Lheard := PySem.W.mg_of X G a_Lheard
  have F_Lany_right := fun_mk (st := s__law_any_right) l_Lany_right c_Lany_right k_Lany_right
  have B_Lany_right := F_Lany_right.binds (ps := ["_law_pot_here", "_law_wide", "_law_rows_here"]) fun _ _ _ _ _ _ us hl => match us, hl with | [_, _, _], _ => rfl
  have m_Lany_right := PySem.W.mg_of X G a_Lany_right
  have F_Ldraw := fun_mk (st := s_draw) l_Ldraw c_Ldraw k_Ldraw
  have B_Ldraw := F_Ldraw.binds (ps := ["_law_pot_here", "_law_many"]) fun _ _ _ _ _ _ us hl => match us, hl with | [_, _], _ => rfl
  have m_Ldraw := PySem.W.mg_of X G a_Ldraw
  have F_Lpot := fun_mk (st := s_pot) l_Lpot c_Lpot k_Lpot
  have B_Lpot := F_Lpot.binds (ps := ["_law_script", "_law_k"]) fun _ _ _ _ _ _ us hl => match us, hl with | [_, _], _ => rfl
  have m_Lpot := PySem.W.mg_of X G a_Lpot
  have F_isInt := fun_mk (st := s_isInt) l_isInt c_isInt k_isInt
  have B_isInt := F_isInt.binds (ps := ["value"]) fun _ _ _ _ _ _ us hl => match us, hl with | [_], _ => rfl
  have m_isInt := PySem.W.mg_of X G a_isInt
  have F_isNum := fun_mk (st := s_isNum) l_isNum c_isNum k_isNum
  have B_isNum := F_isNum.binds (ps := ["value"]) fun _ _ _ _ _ _ us hl => match us, hl with | [_], _ => rfl
  have m_isNum := PySem.W.mg_of X G a_isNum
  have F_need := fun_mk (st := s_need) l_need c_need k_need
  have B_need := F_need.binds (ps := ["number"]) fun _ _ _ _ _ _ us hl => match us, hl with | [_], _ => rfl
  have m_need := PySem.W.mg_of X G a_need
  have F_tb := fun_mk (st := s_tb) l_tb c_tb k_tb
  have B_tb := F_tb.binds (ps := ["number"]) fun _ _ _ _ _ _ us hl => match us, hl with | [_], _ => rfl
  have m_tb := PySem.W.mg_of X G a_tb
  have F_law := fun_mk (st := s_law) l_law c_law k_law
  have m_law := PySem.W.mg_of X G a_law
  have F_Rtop := fun_mk (st := s_Rtop) l_Rtop c_Rtop k_Rtop
  have B_Rtop := F_Rtop.binds (ps := ["self"]) fun _ _ _ _ _ _ us hl => match us, hl with | [_], _ => rfl
  have P_Rtop : PropOf K C "top" p_Rtop f_Rtop := ⟨a_Rtop, gg_Rtop, t_Rtop, _, e_Rtop⟩
  have F_Rbottom := fun_mk (st := s_Rbottom) l_Rbottom c_Rbottom k_Rbottom
  have B_Rbottom := F_Rbottom.binds (ps := ["self"]) fun _ _ _ _ _ _ us hl => match us, hl with | [_], _ => rfl
  have P_Rbottom : PropOf K C "bottom" p_Rbottom f_Rbottom := ⟨a_Rbottom, gg_Rbottom, t_Rbottom, _, e_Rbottom⟩
  have F_Req := fun_mk (st := s_Req) l_Req c_Req k_Req
  have B_Req := F_Req.binds (ps := ["self", "other"]) fun _ _ _ _ _ _ us hl => match us, hl with | [_, _], _ => rfl
  have F_Rrepr := fun_mk (st := s_Rrepr) l_Rrepr c_Rrepr k_Rrepr
  have B_Rrepr := F_Rrepr.binds (ps := ["self"]) fun _ _ _ _ _ _ us hl => match us, hl with | [_], _ => rfl
  have mC := PySem.W.mg_of X G aC
  have y_abs := PySem.W.mg_none_of X G z_abs
  have y_all := PySem.W.mg_none_of X G z_all
  have y_bool := PySem.W.mg_none_of X G z_bool
  have y_divmod := PySem.W.mg_none_of X G z_divmod
  have y_int := PySem.W.mg_none_of X G z_int
  have y_isinstance := PySem.W.mg_none_of X G z_isinstance
  have y_len := PySem.W.mg_none_of X G z_len
  have y_list := PySem.W.mg_none_of X G z_list
  have y_max := PySem.W.mg_none_of X G z_max
  have y_range := PySem.W.mg_none_of X G z_range
  have y_repr := PySem.W.mg_none_of X G z_repr
  have y_tuple := PySem.W.mg_none_of X G z_tuple
  have F_Rinit : FunD K "__init__" "Ratio.__init__" (defArgs s_Rinit) (defBody s_Rinit) (defScope s_Rinit) [.int 1] [] f_Rinit _ := ⟨⟨oc_Rinit, od_Rinit, .ref T1, kV_Rinit, dc_Rinit, pm_Rinit, an_Rinit, cd_Rinit, ct_Rinit, sl_Rinit, rfl, l_Rinit, c_Rinit, .inr ⟨List.cons_ne_nil _ _, T1, _, _, _, rfl, lT, rfl, .cons ⟨tk1, rfl⟩ .nil⟩, .inl rfl⟩, k_Rinit⟩
  obtain ⟨ds2, v2, BI2⟩ := F_Rinit.binds1 (ps := ["self", "top", "bottom"]) 3 1 (List.cons_ne_nil _ _) rfl fun T kV doc pm an cdv ct us its h1 h2 => match us, its, h1, h2 with | [_, _, _], [_], _, _ => ⟨_, rfl, rfl⟩
  cases v2
  obtain ⟨ds1, v1, BI1⟩ := F_Rinit.binds1 (ps := ["self", "top", "bottom"]) 2 0 (List.cons_ne_nil _ _) rfl fun T kV doc pm an cdv ct us its h1 h2 => match us, its, h1, h2 with | [_, _], [_], _, _ => ⟨_, rfl, rfl⟩
  have cl : Cls K C := ⟨pg, hd, po, sa⟩
  have ct0 : ClsTy K C := ⟨fun H a dx fs e => .ins e cl clA clN clT clM, fun t => by cases t <;> first | exact kit_ref su_int (by decide +kernel) | exact kit_ref su_bool (by decide +kernel) | exact kit_ref su_str (by decide +kernel) | exact kit_ref su_tuple (by decide +kernel) | exact kit_ref su_list (by decide +kernel) | exact kit_ref su_NoneType (by decide +kernel) | exact kit_ref su_dict (by decide +kernel),
    fun t => by cases t <;> first | exact kit_of us_int isC tyC | exact kit_of us_bool isC tyC | exact kit_of us_str isC tyC | exact kit_of us_tuple isC tyC | exact kit_of us_list isC tyC | exact kit_of us_NoneType isC tyC | exact kit_of us_dict isC tyC⟩
  have at_ : ClsAt K "Ratio" C := aC
  have kn : KnownC K ["Ratio"] := fun c hc => by
    have e : c = "Ratio" := by simpa using hc
    subst e
    exact ⟨C, at_, ct0⟩
  have M : Mk K C f_Rinit := ⟨mk, a_Rinit, i_Rinit, kC⟩
  have mC_Table := PySem.W.mg_of X G aC_Table
  have F_Table_init := fun_mk (st := s_Table_init) l_Table_init c_Table_init k_Table_init
  have B_Table_init := F_Table_init.binds (ps := ["self", "columns", "rows"]) fun _ _ _ _ _ _ us hl => match us, hl with | [_, _, _], _ => rfl
  have FD_Table_init : FunD K "__init__" "Table.__init__" (defArgs s_Table_init) (defBody s_Table_init) (defScope s_Table_init) [] [] f_Table_init _ := ⟨⟨oc_Table_init, od_Table_init, .none, kV_Table_init, dc_Table_init, pm_Table_init, an_Table_init, cd_Table_init, ct_Table_init, sl_Table_init, rfl, l_Table_init, c_Table_init, .inl ⟨rfl, rfl⟩, .inl rfl⟩, k_Table_init⟩
  have F_Table_columns := fun_mk (st := s_Table_columns) l_Table_columns c_Table_columns k_Table_columns
  have B_Table_columns := F_Table_columns.binds (ps := ["self"]) fun _ _ _ _ _ _ us hl => match us, hl with | [_], _ => rfl
  have P_Table_columns : PropOf K CTable "columns" p_Table_columns f_Table_columns := ⟨a_Table_columns, gg_Table_columns, t_Table_columns, _, e_Table_columns⟩
  have F_Table_height := fun_mk (st := s_Table_height) l_Table_height c_Table_height k_Table_height
  have B_Table_height := F_Table_height.binds (ps := ["self"]) fun _ _ _ _ _ _ us hl => match us, hl with | [_], _ => rfl
  have P_Table_height : PropOf K CTable "height" p_Table_height f_Table_height := ⟨a_Table_height, gg_Table_height, t_Table_height, _, e_Table_height⟩
  have F_Table_rows := fun_mk (st := s_Table_rows) l_Table_rows c_Table_rows k_Table_rows
  have B_Table_rows := F_Table_rows.binds (ps := ["self"]) fun _ _ _ _ _ _ us hl => match us, hl with | [_], _ => rfl
  have F_Table_eq := fun_mk (st := s_Table_eq) l_Table_eq c_Table_eq k_Table_eq
  have B_Table_eq := F_Table_eq.binds (ps := ["self", "other"]) fun _ _ _ _ _ _ us hl => match us, hl with | [_, _], _ => rfl
  have cl_Table : Cls K CTable := ⟨pg_Table, hd_Table, po_Table, sa_Table⟩
  have ct_Table : ClsTy K CTable := ⟨fun H a dx fs e => .ins e cl_Table clA_Table clN clT clM_Table, fun t => by cases t <;> first | exact kit_ref su_int_Table (by decide +kernel) | exact kit_ref su_bool_Table (by decide +kernel) | exact kit_ref su_str_Table (by decide +kernel) | exact kit_ref su_tuple_Table (by decide +kernel) | exact kit_ref su_list_Table (by decide +kernel) | exact kit_ref su_NoneType_Table (by decide +kernel) | exact kit_ref su_dict_Table (by decide +kernel),
    fun t => by cases t <;> first | exact kit_of us_int_Table isC_Table tyC_Table | exact kit_of us_bool_Table isC_Table tyC_Table | exact kit_of us_str_Table isC_Table tyC_Table | exact kit_of us_tuple_Table isC_Table tyC_Table | exact kit_of us_list_Table isC_Table tyC_Table | exact kit_of us_NoneType_Table isC_Table tyC_Table | exact kit_of us_dict_Table isC_Table tyC_Table⟩
  have at_Table : ClsAt K "Table" CTable := aC_Table
  have M_Table : Mk K CTable f_Table_init := ⟨mk_Table, a_Table_init, i_Table_init, kC_Table⟩
  have O_Table_eq : CmpOwn K CTable .Eq f_Table_eq := ⟨(by rw [show (PySem.cmpInfo CmpOp.Eq).2.1 = ("__eq__" : Str) from by decide +kernel]; exact a_Table_eq), i_Table_eq, nf1_Table, nf2_Table⟩
  have ne_Table_Ratio : CTable ≠ C := fun z => by
    have y := a_Table_columns
    rw [z, nc_Table_Ratio] at y
    cases y
  have F_InvalidColumns_init := fun_mk (st := s_InvalidColumns_init) l_InvalidColumns_init c_InvalidColumns_init k_InvalidColumns_init
  have B_InvalidColumns_init := F_InvalidColumns_init.binds (ps := ["self", "value"]) fun _ _ _ _ _ _ us hl => match us, hl with | [_, _], _ => rfl
  have mE_InvalidColumns := PySem.W.mg_of X G aE_InvalidColumns
  have T_InvalidColumns := exM_VE xm_InvalidColumns
  have F_InvalidRows_init := fun_mk (st := s_InvalidRows_init) l_InvalidRows_init c_InvalidRows_init k_InvalidRows_init
  have B_InvalidRows_init := F_InvalidRows_init.binds (ps := ["self", "value"]) fun _ _ _ _ _ _ us hl => match us, hl with | [_, _], _ => rfl
  have mE_InvalidRows := PySem.W.mg_of X G aE_InvalidRows
  have T_InvalidRows := exM_VE xm_InvalidRows
  have kn2 : KnownC K ["Ratio", "Table"] := fun c hc => by
    have e : c = "Ratio" ∨ c = "Table" := by simpa using hc
    rcases e with rfl | rfl
    · exact ⟨C, at_, ct0⟩
    · exact ⟨CTable, at_Table, ct_Table⟩
  have df_Ratio : DfP K ["Ratio", "Table"] "Ratio" := fun c C1 C0 hc hne h1 h0 => by
    have e : c = "Ratio" ∨ c = "Table" := by simpa using hc
    rcases e with rfl | rfl
    · exact absurd hne (by decide +kernel)
    · rw [ClsAt.one at_Table h1, ClsAt.one at_ h0]
      exact kit_rr ne_Table_Ratio rr_Table_Ratio isC tyC
  have df_Table : DfP K ["Ratio", "Table"] "Table" := fun c C1 C0 hc hne h1 h0 => by
    have e : c = "Ratio" ∨ c = "Table" := by simpa using hc
    rcases e with rfl | rfl
    · rw [ClsAt.one at_ h1, ClsAt.one at_Table h0]
      exact kit_rr (Ne.symm ne_Table_Ratio) rr_Ratio_Table isC_Table tyC_Table
    · exact absurd hne (by decide +kernel)
  have O_Req : CmpOwn K C .Eq f_Req := ⟨(by rw [show (PySem.cmpInfo CmpOp.Eq).2.1 = ("__eq__" : Str) from by decide +kernel]; exact a_Req), i_Req, nf1, nf2⟩
  refine ⟨PySem.W.fnOf "law" "law" (defArgs s_law) (defBody s_law) (defScope s_law) .none kV_law dc_law pm_law an_law cd_law ct_law, fun s v => .of_eq rfl, fun base _ _ => ?_⟩
  have G_isInt := g_isInt (P := l.prog) (w := w) (base := base) F_isInt kn y_isinstance y_int y_bool
  have G_isNum := g_isNum (P := l.prog) (w := w) (base := base) F_isNum kn at_ ct0 y_isinstance mC m_isInt k_isInt G_isInt B_isInt
  have G_need := g_need (P := l.prog) (w := w) (base := base) F_need m_isNum k_isNum G_isNum B_isNum
  have G_Rinit := g_Rinit (P := l.prog) (w := w) (base := base) F_Rinit cl at_ nt nb m_isInt k_isInt (G_isInt.imp (spD_imp fun ds R h => by
    split at h
    · rw [isInt_int]; exact h
    · exact h.elim)) B_isInt (PySem.W.mg_of X G gcd)
  have R0 : RH l.prog w K mg base (fun _ => .fail) C f_Rinit f_tb _ _ := ⟨M, cl, at_, nt, nb, mC, m_tb, k_tb, G_Rinit, BI2, fail_ok, B_tb⟩
  have G_Rtop := g_Rtop F_Rtop R0
  have G_Rbottom := g_Rbottom F_Rbottom R0
  have G_tb := g_tb (P := l.prog) (w := w) (base := base) F_tb kn at_ ct0 cl y_isinstance mC m_need k_need G_need B_need P_Rtop G_Rtop B_Rtop P_Rbottom G_Rbottom B_Rbottom
  have R : RH l.prog w K mg base Pd.f_tb C f_Rinit f_tb _ _ := ⟨M, cl, at_, nt, nb, mC, m_tb, k_tb, G_Rinit, BI2, G_tb, B_tb⟩
  have G_Rrepr := g_Rrepr F_Rrepr R
  have G_Req := g_Req F_Req R kn ct0 y_isinstance
  have p_is_integer : Pm l.prog w K mg base "is_integer" 1 1 ["value"] Pd.f_is_integer := ⟨_, _, m_isInt, k_isInt, G_isInt, B_isInt⟩
  have p_is_number : Pm l.prog w K mg base "is_number" 2 1 ["value"] Pd.f_is_number := ⟨_, _, m_isNum, k_isNum, G_isNum, B_isNum⟩
  have p_need_number : Pm l.prog w K mg base "need_number" 3 1 ["number"] Pd.f_need_number := ⟨_, _, m_need, k_need, G_need, B_need⟩
  have ne_ : ∀ C', ClsAt K "Ratio" C' → PySem.W.findIn K (.ref C') "__ne__" = some (some (.builtin "object.__ne__")) ∧ PySem.W.mroIn K C' (.type "object") = some true := fun C' h => by
    have e := ClsAt.one at_ h
    subst e
    exact ⟨neC, clM⟩
  have E1 : EqP l.prog w K mg base 1 Pd.eRat := EqP.of ⟨C, _, _, _, at_, O_Req, G_Req, B_Req⟩ ne_
  have W0 : Wd0 l.prog w K mg base := { mk1 := ⟨C, _, _, _, [.int 1], _, M, at_, mC, G_Rinit, BI1, v1, fun _ _ => .cons (.int 1) .nil⟩, mk2 := ⟨C, _, _, _, [], [], M, at_, mC, G_Rinit, BI2, .nil, fun _ _ => .nil⟩, kn := kn2, eq1 := E1, tx := TxP.of ⟨C, _, _, _, at_, ⟨a_Rrepr, i_Rrepr⟩, G_Rrepr, B_Rrepr⟩, p_top := ⟨C, _, _, _, _, at_, cl, P_Rtop, G_Rtop, B_Rtop⟩, p_bottom := ⟨C, _, _, _, _, at_, cl, P_Rbottom, G_Rbottom, B_Rbottom⟩, ic_Ratio := ⟨C, at_, ct0, mC⟩, df_Ratio := df_Ratio, ic_Table := ⟨CTable, at_Table, ct_Table, mC_Table⟩, df_Table := df_Table, at_Table_columns := ⟨CTable, at_Table, cl_Table, no_Table_columns⟩, at_Table_rows := ⟨CTable, at_Table, cl_Table, no_Table_rows⟩, z_abs := y_abs, z_all := y_all, z_bool := y_bool, z_int := y_int, z_isinstance := y_isinstance, z_len := y_len, z_list := y_list, z_range := y_range, z_repr := y_repr, z_tuple := y_tuple, c_MOST_COLUMNS := ⟨_, PySem.W.mg_of X G v_MOST_COLUMNS⟩, c_MOST_ROWS := ⟨_, PySem.W.mg_of X G v_MOST_ROWS⟩, ex_InvalidColumns := ⟨_, _, _, _, E_InvalidColumns, f_InvalidColumns_init, _, _, T_InvalidColumns, aE_InvalidColumns, mE_InvalidColumns, a_InvalidColumns_init, tE_InvalidColumns, gE_InvalidColumns (P := l.prog) (w := w) (base := base) T_InvalidColumns nE_InvalidColumns_value F_InvalidColumns_init, B_InvalidColumns_init⟩, ex_InvalidRows := ⟨_, _, _, _, E_InvalidRows, f_InvalidRows_init, _, _, T_InvalidRows, aE_InvalidRows, mE_InvalidRows, a_InvalidRows_init, tE_InvalidRows, gE_InvalidRows (P := l.prog) (w := w) (base := base) T_InvalidRows nE_InvalidRows_value F_InvalidRows_init, B_InvalidRows_init⟩, ei_InvalidRows := ⟨E_InvalidRows, aE_InvalidRows, mE_InvalidRows, exI_of xi_InvalidRows, fun f hf => by simp at hf; subst hf; exact nE_InvalidRows_value⟩, xt := xt, txa := txA_one at_ ⟨a_Rrepr, i_Rrepr⟩ (fun h0 => gv_Rrepr (h0 := h0) F_Rrepr R) B_Rrepr }
  have G_Ldraw := g_draw (P := l.prog) (w := w) (base := base) F_Ldraw y_divmod y_int
  have G_Lpot := g_pot (P := l.prog) (w := w) (base := base) F_Lpot y_abs y_len y_max y_int
  have p_Ldraw : Pm l.prog w K mg base "_law_draw" 1 2 ["_law_pot_here", "_law_many"] Pd.f__law_draw := ⟨_, _, m_Ldraw, k_Ldraw, G_Ldraw, B_Ldraw⟩
  have G_is_count := g_is_count (P := l.prog) (w := w) (base := base) F_is_count W0 p_is_integer
  have p_is_count : Pm l.prog w K mg base "is_count" 2 1 ["value"] Pd.f_is_count := ⟨_, _, m_is_count, k_is_count, G_is_count, B_is_count⟩
  have G_is_count_to := g_is_count_to (P := l.prog) (w := w) (base := base) F_is_count_to W0 p_is_count
  have p_is_count_to : Pm l.prog w K mg base "is_count_to" 3 2 ["value", "most"] Pd.f_is_count_to := ⟨_, _, m_is_count_to, k_is_count_to, G_is_count_to, B_is_count_to⟩
  have G_is_list := g_is_list (P := l.prog) (w := w) (base := base) F_is_list W0 
  have p_is_list : Pm l.prog w K mg base "is_list" 1 1 ["value"] Pd.f_is_list := ⟨_, _, m_is_list, k_is_list, G_is_list, B_is_list⟩
  have G_need_columns := g_need_columns (P := l.prog) (w := w) (base := base) F_need_columns W0 p_is_count_to
  have p_need_columns : Pm l.prog w K mg base "need_columns" 4 1 ["columns"] Pd.f_need_columns := ⟨_, _, m_need_columns, k_need_columns, G_need_columns, B_need_columns⟩
  have G_as_ratio := g_as_ratio (P := l.prog) (w := w) (base := base) F_as_ratio W0 
  have p_as_ratio : Pm l.prog w K mg base "as_ratio" 4 1 ["number"] Pd.f_as_ratio := ⟨_, _, m_as_ratio, k_as_ratio, G_as_ratio, B_as_ratio⟩
  have G_are_numbers := g_are_numbers (P := l.prog) (w := w) (base := base) F_are_numbers W0 p_is_list p_is_number
  have p_are_numbers : Pm l.prog w K mg base "are_numbers" 3 2 ["value", "many"] Pd.f_are_numbers := ⟨_, _, m_are_numbers, k_are_numbers, G_are_numbers, B_are_numbers⟩
  have G_are_rows := g_are_rows (P := l.prog) (w := w) (base := base) F_are_rows W0 p_are_numbers p_is_list
  have p_are_rows : Pm l.prog w K mg base "are_rows" 4 2 ["columns", "value"] Pd.f_are_rows := ⟨_, _, m_are_rows, k_are_rows, G_are_rows, B_are_rows⟩
  have GX_need_columns := gx_need_columns (P := l.prog) (w := w) (base := base) F_need_columns W0 p_is_count_to
  have px_need_columns : PmX l.prog w K mg base "need_columns" 4 1 ["columns"] Pd.fx_need_columns := ⟨_, _, m_need_columns, k_need_columns, GX_need_columns, B_need_columns⟩
  have G_Table_init := g_Table_init (P := l.prog) (w := w) (base := base) FD_Table_init cl_Table at_Table W0 p_are_rows p_as_ratio p_need_columns
  have GX_Table_init := gx_Table_init (P := l.prog) (w := w) (base := base) FD_Table_init cl_Table at_Table W0 p_are_rows p_as_ratio px_need_columns
  have G2_Table_init := g2_Table_init (P := l.prog) (w := w) (base := base) FD_Table_init cl_Table at_Table W0 p_are_rows p_as_ratio p_need_columns
  have G_Table_columns := g_Table_columns (P := l.prog) (w := w) (base := base) F_Table_columns W0 
  have G_Table_height := g_Table_height (P := l.prog) (w := w) (base := base) F_Table_height W0 
  have G_Table_rows := g_Table_rows (P := l.prog) (w := w) (base := base) F_Table_rows W0 
  have G_Table_eq := g_Table_eq (P := l.prog) (w := w) (base := base) F_Table_eq W0 
  have fl_nl_Table : ∀ C0, ClsAt K "Table" C0 → PySem.W.notFirst K C0 (.type "list") = true := fun C0 h => by
    have e := ClsAt.one at_Table h
    subst e
    exact nl_Table
  have fl_p_columns : ∀ c F, Pd.tabP_columns c = some F → PmP l.prog w K mg base c "columns" 1 F := fun c F h => by
    unfold Pd.tabP_columns at h
    cases e : (c == "Table") with
    | true =>
      rw [e] at h
      have e2 := eq_of_beq e
      subst e2
      cases h
      exact ⟨CTable, _, _, _, _, at_Table, cl_Table, P_Table_columns, G_Table_columns.mono (by decide), B_Table_columns⟩
    | false =>
    rw [e] at h
    simp only [cond] at h
    cases h
  have fl_p_height : ∀ c F, Pd.tabP_height c = some F → PmP l.prog w K mg base c "height" 1 F := fun c F h => by
    unfold Pd.tabP_height at h
    cases e : (c == "Table") with
    | true =>
      rw [e] at h
      have e2 := eq_of_beq e
      subst e2
      cases h
      exact ⟨CTable, _, _, _, _, at_Table, cl_Table, P_Table_height, G_Table_height.mono (by decide), B_Table_height⟩
    | false =>
    rw [e] at h
    simp only [cond] at h
    cases h
  have fl_m_rows : ∀ c F, Pd.tabM_rows c = some F → PmM l.prog w K mg base c "rows" 1 0 ["self"] F := fun c F h => by
    unfold Pd.tabM_rows at h
    cases e : (c == "Table") with
    | true =>
      rw [e] at h
      have e2 := eq_of_beq e
      subst e2
      cases h
      exact PmMR.pm ⟨CTable, _, _, at_Table, cl_Table, ⟨a_Table_rows, i_Table_rows, k_Table_rows⟩, G_Table_rows.mono (by decide), B_Table_rows⟩
    | false =>
    rw [e] at h
    simp only [cond] at h
    cases h
  have ne_Table : ∀ C0, ClsAt K "Table" C0 → PySem.W.findIn K (.ref C0) "__ne__" = some (some (.builtin "object.__ne__")) ∧ PySem.W.mroIn K C0 (.type "object") = some true := fun C0 h => by
    have e := ClsAt.one at_Table h
    subst e
    exact ⟨neC_Table, clM_Table⟩
  have W : Wd l.prog w K mg base := { toWd0 := W0, mkTable := ⟨CTable, _, _, _, [], [], M_Table, at_Table, mC_Table, G_Table_init.mono (by decide), B_Table_init, .nil, fun _ _ => .nil⟩, mxTable := ⟨CTable, _, _, _, [], [], M_Table, at_Table, mC_Table, GX_Table_init.mono (by decide), B_Table_init, .nil, fun _ _ => .nil⟩, mxkTable0 := ⟨CTable, _, _, _, M_Table, at_Table, mC_Table, GX_Table_init.mono (by decide), fun s r us _ hl => match us, hl with | [_, _], _ => .of_eq rfl⟩, mkF_Table := ⟨CTable, _, _, _, M_Table, at_Table, mC_Table, G2_Table_init.mono (by decide), B_Table_init⟩, mkkTable := ⟨CTable, _, _, _, M_Table, at_Table, mC_Table, G_Table_init.mono (by decide), fun s r us _ hl => match us, hl with | [_, _], _ => .of_eq rfl⟩, mr_Table_rows := ⟨CTable, _, _, at_Table, cl_Table, ⟨a_Table_rows, i_Table_rows, k_Table_rows⟩, G_Table_rows, B_Table_rows⟩, mrr_Table_rows := ⟨CTable, _, _, at_Table, cl_Table, ⟨a_Table_rows, i_Table_rows, k_Table_rows⟩, g2_Table_rows (P := l.prog) (w := w) (base := base) F_Table_rows W0, B_Table_rows⟩, eq_Table := ⟨CTable, _, _, _, at_Table, O_Table_eq, G_Table_eq, B_Table_eq⟩, nl_Table := fl_nl_Table, p_columns := fl_p_columns, p_height := fl_p_height, m_rows := fl_m_rows, eq_eAll := EqP.or (EqP.mono (EqP.of ⟨C, _, _, _, at_, O_Req, G_Req, B_Req⟩ ne_) (by decide)) (EqP.mono (EqP.of ⟨CTable, _, _, _, at_Table, O_Table_eq, G_Table_eq, B_Table_eq⟩ ne_Table) (by decide)) }
  have G_need_like_columns := g_need_like_columns (P := l.prog) (w := w) (base := base) F_need_like_columns W 
  have p_need_like_columns : Pm l.prog w K mg base "need_like_columns" 3 2 ["first", "second"] Pd.f_need_like_columns := ⟨_, _, m_need_like_columns, k_need_like_columns, G_need_like_columns, B_need_like_columns⟩
  have G_need_table := g_need_table (P := l.prog) (w := w) (base := base) F_need_table W 
  have p_need_table : Pm l.prog w K mg base "need_table" 1 1 ["table"] Pd.f_need_table := ⟨_, _, m_need_table, k_need_table, G_need_table, B_need_table⟩
  have G_need_row := g_need_row (P := l.prog) (w := w) (base := base) F_need_row W p_are_numbers
  have p_need_row : Pm l.prog w K mg base "need_row" 4 2 ["columns", "row"] Pd.f_need_row := ⟨_, _, m_need_row, k_need_row, G_need_row, B_need_row⟩
  have G_need_position := g_need_position (P := l.prog) (w := w) (base := base) F_need_position W p_is_count_to
  have p_need_position : Pm l.prog w K mg base "need_position" 4 2 ["position", "most"] Pd.f_need_position := ⟨_, _, m_need_position, k_need_position, G_need_position, B_need_position⟩
  have G_need_place_for_rows := g_need_place_for_rows (P := l.prog) (w := w) (base := base) F_need_place_for_rows W 
  have p_need_place_for_rows : Pm l.prog w K mg base "need_place_for_rows" 1 1 ["many"] Pd.f_need_place_for_rows := ⟨_, _, m_need_place_for_rows, k_need_place_for_rows, G_need_place_for_rows, B_need_place_for_rows⟩
  have G_joined := g_joined (P := l.prog) (w := w) (base := base) F_joined W p_need_like_columns p_need_place_for_rows p_need_table
  have p_joined : Pm l.prog w K mg base "joined" 7 2 ["table", "other"] Pd.f_joined := ⟨_, _, m_joined, k_joined, G_joined, B_joined⟩
  have pk_joined : PmK l.prog w K mg base "joined" 7 2 ["table", "other"] ["table", "other"] [0, 1] Pd.f_joined := ⟨_, _, m_joined, k_joined, G_joined, fun s us _ hl => match us, hl with | [_, _], _ => .of_eq rfl⟩
  have G_turned := g_turned (P := l.prog) (w := w) (base := base) F_turned W p_need_table
  have p_turned : Pm l.prog w K mg base "turned" 7 1 ["table"] Pd.f_turned := ⟨_, _, m_turned, k_turned, G_turned, B_turned⟩
  have G_piece := g_piece (P := l.prog) (w := w) (base := base) F_piece W p_is_count p_is_count_to p_need_table
  have p_piece : Pm l.prog w K mg base "piece" 7 3 ["table", "low", "high"] Pd.f_piece := ⟨_, _, m_piece, k_piece, G_piece, B_piece⟩
  have pk_piece : PmK l.prog w K mg base "piece" 7 3 ["table", "low", "high"] ["high", "table", "low"] [1, 2, 0] Pd.f_piece := ⟨_, _, m_piece, k_piece, G_piece, fun s us _ hl => match us, hl with | [_, _, _], _ => .of_eq rfl⟩
  have G_with_row := g_with_row (P := l.prog) (w := w) (base := base) F_with_row W p_need_place_for_rows p_need_position p_need_row p_need_table
  have p_with_row : Pm l.prog w K mg base "with_row" 7 3 ["table", "position", "row"] Pd.f_with_row := ⟨_, _, m_with_row, k_with_row, G_with_row, B_with_row⟩
  have pk_with_row : PmK l.prog w K mg base "with_row" 7 3 ["table", "position", "row"] ["row", "position", "table"] [2, 1, 0] Pd.f_with_row := ⟨_, _, m_with_row, k_with_row, G_with_row, fun s us _ hl => match us, hl with | [_, _, _], _ => .of_eq rfl⟩
  have G_without_row := g_without_row (P := l.prog) (w := w) (base := base) F_without_row W p_need_position p_need_table
  have p_without_row : Pm l.prog w K mg base "without_row" 7 2 ["table", "position"] Pd.f_without_row := ⟨_, _, m_without_row, k_without_row, G_without_row, B_without_row⟩
  have G_exchanged := g_exchanged (P := l.prog) (w := w) (base := base) F_exchanged W p_need_position p_need_table
  have p_exchanged : Pm l.prog w K mg base "exchanged" 7 2 ["table", "position"] Pd.f_exchanged := ⟨_, _, m_exchanged, k_exchanged, G_exchanged, B_exchanged⟩
  have pk_exchanged : PmK l.prog w K mg base "exchanged" 7 2 ["table", "position"] ["position", "table"] [1, 0] Pd.f_exchanged := ⟨_, _, m_exchanged, k_exchanged, G_exchanged, fun s us _ hl => match us, hl with | [_, _], _ => .of_eq rfl⟩
  have G_Lpick := g__law_pick (P := l.prog) (w := w) (base := base) F_Lpick W p_Ldraw
  have p_Lpick : Pm l.prog w K mg base "_law_pick" 2 2 ["_law_pot_here", "_law_some"] Pd.f__law_pick := ⟨_, _, m_Lpick, k_Lpick, G_Lpick, B_Lpick⟩
  have G_Llow := g__law_low (P := l.prog) (w := w) (base := base) F_Llow W 
  have p_Llow : Pm l.prog w K mg base "_law_low" 1 2 ["_law_top", "_law_bottom"] Pd.f__law_low := ⟨_, _, m_Llow, k_Llow, G_Llow, B_Llow⟩
  have G_Lpair := g__law_pair (P := l.prog) (w := w) (base := base) F_Lpair W 
  have p_Lpair : Pm l.prog w K mg base "_law_pair" 3 1 ["_law_ratio"] Pd.f__law_pair := ⟨_, _, m_Lpair, k_Lpair, G_Lpair, B_Lpair⟩
  have G_Lnumber := g__law_number (P := l.prog) (w := w) (base := base) F_Lnumber W p_Ldraw p_Llow p_Lpick
  have p_Lnumber : Pm l.prog w K mg base "_law_number" 4 1 ["_law_pot_here"] Pd.f__law_number := ⟨_, _, m_Lnumber, k_Lnumber, G_Lnumber, B_Lnumber⟩
  have G_Lrows := g__law_rows (P := l.prog) (w := w) (base := base) F_Lrows W p_Ldraw p_Lnumber
  have p_Lrows : Pm l.prog w K mg base "_law_rows" 5 3 ["_law_pot_here", "_law_wide", "_law_height"] Pd.f__law_rows := ⟨_, _, m_Lrows, k_Lrows, G_Lrows, B_Lrows⟩
  have G_Lis := g__law_is (P := l.prog) (w := w) (base := base) F_Lis W p_Lpair
  have p_Lis : Pm l.prog w K mg base "_law_is" 4 3 ["_law_table", "_law_wide", "_law_pairs"] Pd.f__law_is := ⟨_, _, m_Lis, k_Lis, G_Lis, B_Lis⟩
  have G_Lpieces_right := g__law_pieces_right (P := l.prog) (w := w) (base := base) F_Lpieces_right W p_Ldraw p_Lis p_joined pk_joined p_piece pk_piece
  have p_Lpieces_right : Pm l.prog w K mg base "_law_pieces_right" 29 4 ["_law_pot_here", "_law_table", "_law_wide", "_law_pairs"] Pd.f__law_pieces_right := ⟨_, _, m_Lpieces_right, k_Lpieces_right, G_Lpieces_right, B_Lpieces_right⟩
  have G_Lrows_right := g__law_rows_right (P := l.prog) (w := w) (base := base) F_Lrows_right W p_Ldraw p_Lis p_exchanged pk_exchanged p_with_row pk_with_row p_without_row
  have p_Lrows_right : Pm l.prog w K mg base "_law_rows_right" 29 6 ["_law_pot_here", "_law_table", "_law_wide", "_law_pairs", "_law_row", "_law_told"] Pd.f__law_rows_right := ⟨_, _, m_Lrows_right, k_Lrows_right, G_Lrows_right, B_Lrows_right⟩
  have G_Lis_number := g__law_is_number (P := l.prog) (w := w) (base := base) F_Lis_number W 
  have p_Lis_number : Pm l.prog w K mg base "_law_is_number" 1 1 ["_law_value"] Pd.f__law_is_number := ⟨_, _, m_Lis_number, k_Lis_number, G_Lis_number, B_Lis_number⟩
  have G_Lare_rows := g__law_are_rows (P := l.prog) (w := w) (base := base) F_Lare_rows W p_Lis_number
  have p_Lare_rows : Pm l.prog w K mg base "_law_are_rows" 2 2 ["_law_wide", "_law_value"] Pd.f__law_are_rows := ⟨_, _, m_Lare_rows, k_Lare_rows, G_Lare_rows, B_Lare_rows⟩
  have G_Lheard := g__law_heard (P := l.prog) (w := w) (base := base) F_Lheard W 
  have p_Lheard : PmG l.prog w K mg base "_law_heard" 10 2 ["_law_wide", "_law_value"] Pd.f__law_heard := ⟨_, _, m_Lheard, k_Lheard, G_Lheard, B_Lheard⟩
  have G_Lany_right := g__law_any_right (P := l.prog) (w := w) (base := base) F_Lany_right W p_Lare_rows p_Ldraw p_Lheard p_Lpick
  have p_Lany_right : PmG l.prog w K mg base "_law_any_right" 29 3 ["_law_pot_here", "_law_wide", "_law_rows_here"] Pd.f__law_any_right := ⟨_, _, m_Lany_right, k_Lany_right, G_Lany_right, B_Lany_right⟩
  exact g_law F_law m_Lpot k_Lpot G_Lpot B_Lpot fun cdv A outer s H E hr hgd => rest_law W p_Lany_right p_Ldraw p_Lis p_Lpieces_right p_Lrows p_Lrows_right p_joined p_turned hr hgd
end Pd
section
local macro_rules | `(tactic| kernel_rfl) => `(tactic| (with_reducible refine Pd.Top.use ?_; kernel_rfl))
open PySem PySem.W PyProof.Rows in
set_option maxHeartbeats 0 in
theorem PySem.Challenge.cw_aheadsums_k12_whole_tables_put_together_holds : PySem.Challenge.rw_aheadsums_k12_whole_tables_put_together.Holds := by
  w_on; o_law; k_headL; (case hw => w_witness2)
  k_fill
  refine Pd.walkG (n := 63) (k := 30) (x := "_law_script") (l := PySem.Challenge.rw_aheadsums_k12_whole_tables_put_together) (sp := fun w => Pd.spL _) rfl (by decide) rfl ⟨rfl, by decide, by decide⟩ (fun w h Y => PySem.W.kIn_of Y) ?F fun w H a ns _ _ hS => ⟨a, ns, rfl, hS, fun _ => rfl⟩
  case F =>
    intro w mg fa h KX G hmg
    refine' Pd.all_mk KX G hmg ?aC ?a_is_count ?l_is_count ?c_is_count ?k_is_count ?a_is_count_to ?l_is_count_to ?c_is_count_to ?k_is_count_to ?a_is_list ?l_is_list ?c_is_list ?k_is_list ?a_need_columns ?l_need_columns ?c_need_columns ?k_need_columns ?a_as_ratio ?l_as_ratio ?c_as_ratio ?k_as_ratio ?a_are_numbers ?l_are_numbers ?c_are_numbers ?k_are_numbers ?a_are_rows ?l_are_rows ?c_are_rows ?k_are_rows ?a_need_like_columns ?l_need_like_columns ?c_need_like_columns ?k_need_like_columns ?a_need_table ?l_need_table ?c_need_table ?k_need_table ?a_need_row ?l_need_row ?c_need_row ?k_need_row ?a_need_position ?l_need_position ?c_need_position ?k_need_position ?a_need_place_for_rows ?l_need_place_for_rows ?c_need_place_for_rows ?k_need_place_for_rows ?a_joined ?l_joined ?c_joined ?k_joined ?a_turned ?l_turned ?c_turned ?k_turned ?a_piece ?l_piece ?c_piece ?k_piece ?a_with_row ?l_with_row ?c_with_row ?k_with_row ?a_without_row ?l_without_row ?c_without_row ?k_without_row ?a_exchanged ?l_exchanged ?c_exchanged ?k_exchanged ?a_Lpick ?l_Lpick ?c_Lpick ?k_Lpick ?a_Llow ?l_Llow ?c_Llow ?k_Llow ?a_Lpair ?l_Lpair ?c_Lpair ?k_Lpair ?a_Lnumber ?l_Lnumber ?c_Lnumber ?k_Lnumber ?a_Lrows ?l_Lrows ?c_Lrows ?k_Lrows ?a_Lis ?l_Lis ?c_Lis ?k_Lis ?a_Lpieces_right ?l_Lpieces_right ?c_Lpieces_right ?k_Lpieces_right ?a_Lrows_right ?l_Lrows_right ?c_Lrows_right ?k_Lrows_right ?a_Lis_number ?l_Lis_number ?c_Lis_number ?k_Lis_number ?a_Lare_rows ?l_Lare_rows ?c_Lare_rows ?k_Lare_rows ?a_Lheard ?l_Lheard ?c_Lheard ?k_Lheard ?a_Lany_right ?l_Lany_right ?c_Lany_right ?k_Lany_right ?a_Ldraw ?l_Ldraw ?c_Ldraw ?k_Ldraw ?a_Lpot ?l_Lpot ?c_Lpot ?k_Lpot ?a_isInt ?l_isInt ?c_isInt ?k_isInt ?a_isNum ?l_isNum ?c_isNum ?k_isNum ?a_need ?l_need ?c_need ?k_need ?a_tb ?l_tb ?c_tb ?k_tb ?a_law ?l_law ?c_law ?k_law ?a_Rinit ?i_Rinit ?l_Rinit ?c_Rinit ?k_Rinit ?lT ?a_Rtop ?gg_Rtop ?t_Rtop ?e_Rtop ?l_Rtop ?c_Rtop ?k_Rtop ?a_Rbottom ?gg_Rbottom ?t_Rbottom ?e_Rbottom ?l_Rbottom ?c_Rbottom ?k_Rbottom ?a_Req ?i_Req ?l_Req ?c_Req ?k_Req ?a_Rrepr ?i_Rrepr ?l_Rrepr ?c_Rrepr ?k_Rrepr ?mk ?kC ?pg ?hd ?po ?sa ?nt ?nb ?clA ?clN ?clT ?clM ?isC ?tyC ?gcd ?sf ?nf1 ?nf2 ?neC ?su_int ?su_bool ?su_str ?su_tuple ?su_list ?su_NoneType ?su_dict ?us_int ?us_bool ?us_str ?us_tuple ?us_list ?us_NoneType ?us_dict ?aC_Table ?a_Table_init ?i_Table_init ?l_Table_init ?c_Table_init ?k_Table_init ?a_Table_columns ?gg_Table_columns ?t_Table_columns ?e_Table_columns ?l_Table_columns ?c_Table_columns ?k_Table_columns ?a_Table_height ?gg_Table_height ?t_Table_height ?e_Table_height ?l_Table_height ?c_Table_height ?k_Table_height ?a_Table_rows ?i_Table_rows ?l_Table_rows ?c_Table_rows ?k_Table_rows ?a_Table_eq ?i_Table_eq ?l_Table_eq ?c_Table_eq ?k_Table_eq ?mk_Table ?kC_Table ?pg_Table ?hd_Table ?po_Table ?sa_Table ?clA_Table ?clM_Table ?isC_Table ?tyC_Table ?no_Table_columns ?no_Table_rows ?nf1_Table ?nf2_Table ?neC_Table ?nl_Table ?su_int_Table ?su_bool_Table ?su_str_Table ?su_tuple_Table ?su_list_Table ?su_NoneType_Table ?su_dict_Table ?us_int_Table ?us_bool_Table ?us_str_Table ?us_tuple_Table ?us_list_Table ?us_NoneType_Table ?us_dict_Table ?rr_Ratio_Table ?rr_Table_Ratio ?nc_Table_Ratio ?z_abs ?z_all ?z_bool ?z_divmod ?z_int ?z_isinstance ?z_len ?z_list ?z_max ?z_range ?z_repr ?z_tuple ?v_MOST_COLUMNS ?v_MOST_ROWS ?aE_InvalidColumns ?xm_InvalidColumns ?a_InvalidColumns_init ?tE_InvalidColumns ?nE_InvalidColumns_value ?l_InvalidColumns_init ?c_InvalidColumns_init ?k_InvalidColumns_init ?aE_InvalidRows ?xm_InvalidRows ?a_InvalidRows_init ?tE_InvalidRows ?nE_InvalidRows_value ?l_InvalidRows_init ?c_InvalidRows_init ?k_InvalidRows_init ?xi_InvalidRows ?xt
    (case aC => k_is)
    (case a_is_count => k_is)
    (case l_is_count => k_is)
    (case c_is_count => k_is)
    (case k_is_count => k_is)
    (case a_is_count_to => k_is)
    (case l_is_count_to => k_is)
    (case c_is_count_to => k_is)
    (case k_is_count_to => k_is)
    (case a_is_list => k_is)
    (case l_is_list => k_is)
    (case c_is_list => k_is)
    (case k_is_list => k_is)
    (case a_need_columns => k_is)
    (case l_need_columns => k_is)
    (case c_need_columns => k_is)
    (case k_need_columns => k_is)
    (case a_as_ratio => k_is)
    (case l_as_ratio => k_is)
    (case c_as_ratio => k_is)
    (case k_as_ratio => k_is)
    (case a_are_numbers => k_is)
    (case l_are_numbers => k_is)
    (case c_are_numbers => k_is)
    (case k_are_numbers => k_is)
    (case a_are_rows => k_is)
    (case l_are_rows => k_is)
    (case c_are_rows => k_is)
    (case k_are_rows => k_is)
    (case a_need_like_columns => k_is)
    (case l_need_like_columns => k_is)
    (case c_need_like_columns => k_is)
    (case k_need_like_columns => k_is)
    (case a_need_table => k_is)
    (case l_need_table => k_is)
    (case c_need_table => k_is)
    (case k_need_table => k_is)
    (case a_need_row => k_is)
    (case l_need_row => k_is)
    (case c_need_row => k_is)
    (case k_need_row => k_is)
    (case a_need_position => k_is)
    (case l_need_position => k_is)
    (case c_need_position => k_is)
    (case k_need_position => k_is)
    (case a_need_place_for_rows => k_is)
    (case l_need_place_for_rows => k_is)
    (case c_need_place_for_rows => k_is)
    (case k_need_place_for_rows => k_is)
    (case a_joined => k_is)
    (case l_joined => k_is)
    (case c_joined => k_is)
    (case k_joined => k_is)
    (case a_turned => k_is)
    (case l_turned => k_is)
    (case c_turned => k_is)
    (case k_turned => k_is)
    (case a_piece => k_is)
    (case l_piece => k_is)
    (case c_piece => k_is)
    (case k_piece => k_is)
    (case a_with_row => k_is)
    (case l_with_row => k_is)
    (case c_with_row => k_is)
    (case k_with_row => k_is)
    (case a_without_row => k_is)
    (case l_without_row => k_is)
    (case c_without_row => k_is)
    (case k_without_row => k_is)
    (case a_exchanged => k_is)
    (case l_exchanged => k_is)
    (case c_exchanged => k_is)
    (case k_exchanged => k_is)
    (case a_Lpick => k_is)
    (case l_Lpick => k_is)
    (case c_Lpick => k_is)
    (case k_Lpick => k_is)
    (case a_Llow => k_is)
    (case l_Llow => k_is)
    (case c_Llow => k_is)
    (case k_Llow => k_is)
    (case a_Lpair => k_is)
    (case l_Lpair => k_is)
    (case c_Lpair => k_is)
    (case k_Lpair => k_is)
    (case a_Lnumber => k_is)
    (case l_Lnumber => k_is)
    (case c_Lnumber => k_is)
    (case k_Lnumber => k_is)
    (case a_Lrows => k_is)
    (case l_Lrows => k_is)
    (case c_Lrows => k_is)
    (case k_Lrows => k_is)
    (case a_Lis => k_is)
    (case l_Lis => k_is)
    (case c_Lis => k_is)
    (case k_Lis => k_is)
    (case a_Lpieces_right => k_is)
    (case l_Lpieces_right => k_is)
    (case c_Lpieces_right => k_is)
    (case k_Lpieces_right => k_is)
    (case a_Lrows_right => k_is)
    (case l_Lrows_right => k_is)
    (case c_Lrows_right => k_is)
    (case k_Lrows_right => k_is)
    (case a_Lis_number => k_is)
    (case l_Lis_number => k_is)
    (case c_Lis_number => k_is)
    (case k_Lis_number => k_is)
    (case a_Lare_rows => k_is)
    (case l_Lare_rows => k_is)
    (case c_Lare_rows => k_is)
    (case k_Lare_rows => k_is)
    (case a_Lheard => k_is)
    (case l_Lheard => k_is)
    (case c_Lheard => k_is)
    (case k_Lheard => k_is)
    (case a_Lany_right => k_is)
    (case l_Lany_right => k_is)
    (case c_Lany_right => k_is)
    (case k_Lany_right => k_is)
    (case a_Ldraw => k_is)
    (case l_Ldraw => k_is)
    (case c_Ldraw => k_is)
    (case k_Ldraw => k_is)
    (case a_Lpot => k_is)
    (case l_Lpot => k_is)
    (case c_Lpot => k_is)
    (case k_Lpot => k_is)
    (case a_isInt => k_is)
    (case l_isInt => k_is)
    (case c_isInt => k_is)
    (case k_isInt => k_is)
    (case a_isNum => k_is)
    (case l_isNum => k_is)
    (case c_isNum => k_is)
    (case k_isNum => k_is)
    (case a_need => k_is)
    (case l_need => k_is)
    (case c_need => k_is)
    (case k_need => k_is)
    (case a_tb => k_is)
    (case l_tb => k_is)
    (case c_tb => k_is)
    (case k_tb => k_is)
    (case a_law => k_is)
    (case l_law => k_is)
    (case c_law => k_is)
    (case k_law => k_is)
    (case a_Rinit => k_is)
    (case i_Rinit => k_is)
    (case l_Rinit => k_is)
    (case c_Rinit => k_is)
    (case k_Rinit => k_is)
    (case lT => k_is)
    (case a_Rtop => k_is)
    (case gg_Rtop => k_is)
    (case t_Rtop => k_is)
    (case e_Rtop => k_is)
    (case l_Rtop => k_is)
    (case c_Rtop => k_is)
    (case k_Rtop => k_is)
    (case a_Rbottom => k_is)
    (case gg_Rbottom => k_is)
    (case t_Rbottom => k_is)
    (case e_Rbottom => k_is)
    (case l_Rbottom => k_is)
    (case c_Rbottom => k_is)
    (case k_Rbottom => k_is)
    (case a_Req => k_is)
    (case i_Req => k_is)
    (case l_Req => k_is)
    (case c_Req => k_is)
    (case k_Req => k_is)
    (case a_Rrepr => k_is)
    (case i_Rrepr => k_is)
    (case l_Rrepr => k_is)
    (case c_Rrepr => k_is)
    (case k_Rrepr => k_is)
    (case mk => k_is)
    (case kC => k_is)
    (case pg => k_is)
    (case hd => k_is)
    (case po => k_is)
    (case sa => k_is)
    (case nt => k_is)
    (case nb => k_is)
    (case clA => k_is)
    (case clN => k_is)
    (case clT => k_is)
    (case clM => k_is)
    (case isC => k_is)
    (case tyC => k_is)
    (case gcd => k_is)
    (case sf => k_is)
    (case nf1 => k_is)
    (case nf2 => k_is)
    (case neC => k_is)
    (case su_int => k_is)
    (case su_bool => k_is)
    (case su_str => k_is)
    (case su_tuple => k_is)
    (case su_list => k_is)
    (case su_NoneType => k_is)
    (case su_dict => k_is)
    (case us_int => k_is)
    (case us_bool => k_is)
    (case us_str => k_is)
    (case us_tuple => k_is)
    (case us_list => k_is)
    (case us_NoneType => k_is)
    (case us_dict => k_is)
    (case aC_Table => k_is)
    (case a_Table_init => k_is)
    (case i_Table_init => k_is)
    (case l_Table_init => k_is)
    (case c_Table_init => k_is)
    (case k_Table_init => k_is)
    (case a_Table_columns => k_is)
    (case gg_Table_columns => k_is)
    (case t_Table_columns => k_is)
    (case e_Table_columns => k_is)
    (case l_Table_columns => k_is)
    (case c_Table_columns => k_is)
    (case k_Table_columns => k_is)
    (case a_Table_height => k_is)
    (case gg_Table_height => k_is)
    (case t_Table_height => k_is)
    (case e_Table_height => k_is)
    (case l_Table_height => k_is)
    (case c_Table_height => k_is)
    (case k_Table_height => k_is)
    (case a_Table_rows => k_is)
    (case i_Table_rows => k_is)
    (case l_Table_rows => k_is)
    (case c_Table_rows => k_is)
    (case k_Table_rows => k_is)
    (case a_Table_eq => k_is)
    (case i_Table_eq => k_is)
    (case l_Table_eq => k_is)
    (case c_Table_eq => k_is)
    (case k_Table_eq => k_is)
    (case mk_Table => k_is)
    (case kC_Table => k_is)
    (case pg_Table => k_is)
    (case hd_Table => k_is)
    (case po_Table => k_is)
    (case sa_Table => k_is)
    (case clA_Table => k_is)
    (case clM_Table => k_is)
    (case isC_Table => k_is)
    (case tyC_Table => k_is)
    (case no_Table_columns => k_is)
    (case no_Table_rows => k_is)
    (case nf1_Table => k_is)
    (case nf2_Table => k_is)
    (case neC_Table => k_is)
    (case nl_Table => k_is)
    (case su_int_Table => k_is)
    (case su_bool_Table => k_is)
    (case su_str_Table => k_is)
    (case su_tuple_Table => k_is)
    (case su_list_Table => k_is)
    (case su_NoneType_Table => k_is)
    (case su_dict_Table => k_is)
    (case us_int_Table => k_is)
    (case us_bool_Table => k_is)
    (case us_str_Table => k_is)
    (case us_tuple_Table => k_is)
    (case us_list_Table => k_is)
    (case us_NoneType_Table => k_is)
    (case us_dict_Table => k_is)
    (case rr_Ratio_Table => k_is)
    (case rr_Table_Ratio => k_is)
    (case nc_Table_Ratio => k_is)
    (case z_abs => k_is)
    (case z_all => k_is)
    (case z_bool => k_is)
    (case z_divmod => k_is)
    (case z_int => k_is)
    (case z_isinstance => k_is)
    (case z_len => k_is)
    (case z_list => k_is)
    (case z_max => k_is)
    (case z_range => k_is)
    (case z_repr => k_is)
    (case z_tuple => k_is)
    (case v_MOST_COLUMNS => k_is)
    (case v_MOST_ROWS => k_is)
    (case aE_InvalidColumns => k_is)
    (case xm_InvalidColumns => kernel_rfl)
    (case a_InvalidColumns_init => k_is)
    (case tE_InvalidColumns => k_is)
    (case nE_InvalidColumns_value => k_is)
    (case l_InvalidColumns_init => k_is)
    (case c_InvalidColumns_init => k_is)
    (case k_InvalidColumns_init => k_is)
    (case aE_InvalidRows => k_is)
    (case xm_InvalidRows => kernel_rfl)
    (case a_InvalidRows_init => k_is)
    (case tE_InvalidRows => k_is)
    (case nE_InvalidRows_value => k_is)
    (case l_InvalidRows_init => k_is)
    (case c_InvalidRows_init => k_is)
    (case k_InvalidRows_init => k_is)
    (case xi_InvalidRows => kernel_rfl)
    (case xt => kernel_rfl)
end
#print axioms PySem.Challenge.cw_aheadsums_k12_whole_tables_put_together_holds
