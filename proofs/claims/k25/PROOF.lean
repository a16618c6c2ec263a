import PyProof.Rows.All
import Wide.All
import OpenK.AllK
import Wide.FinOn
import HandS.ForMost
import HandS.TupAny
import HandS.TupMul
import KE.KDictKeyed
import KE.KeyNested
import HandS.Style
import HandS.Zip
import HandS.IsInst
import KE.KDictDisplayH
import KE.KDictWalk
import HandS.Dict
import HandS.Iter
import KE.GoesEnum
import KE.SortData
import HandS.More
import OpenK.KMore
import PyProof.ReprRoads
import HandS.Ends
import HandS.Property
import KE.KOpsOwn
import PyProof.TwoTypes
import HandS.FStr
import HandS.RaiseMore
import KE.KCallOwn
import HandS.MakeKwOnly
import HandS.ClsMeth
import HandS.CallLocal
import PyProof.ReprNest
import PyProof.ReprHeadsEmpty
import PyProof.StrHeap
import PyProof.ReprDict
import HandS.OwnEq
import HandS.Defaults
import KE.KRevSl
import KE.KDictItemsList
import KE.KEqDict
import HandS.Gcd
import PySem.Challenge.RW_aheadsums_k25_whole_lacings_of_three_and
set_option Elab.async false
set_option maxRecDepth 100000
set_option maxHeartbeats 4000000
set_option exponentiation.threshold 10000
set_option linter.all false
/-! Data of a run as plain values: the heap only grows but for lists and dicts that one def builds (own ones) and for the pot of draws. -/
namespace Pd
open PySem L2

inductive D where
  | non | bl (b : Bool) | int (i : Int) | str (x : Str) | tup (ds : List D) | lst (ds : List D) | dic (kvs : List (D × D)) | pot | ins (c : Str) (fs : List (Str × D))

mutual
def D.nk : D → Option NestedKey
  | .non => some .none
  | .bl b => some (.num (if b = true then 1 else 0))
  | .int i => some (.num i)
  | .str x => some (.text x)
  | .tup ds => match D.nks ds with
    | some ks => some (.tup ks)
    | none => none
  | .lst _ => none
  | .dic _ => none
  | .pot => none
  | .ins _ _ => none
def D.nks : List D → Option (List NestedKey)
  | [] => some []
  | d :: ds => match D.nk d with
    | none => none
    | some k => match D.nks ds with
      | none => none
      | some ks => some (k :: ks)
end
mutual
def D.py : D → Option PyData
  | .non => some .none
  | .bl b => some (.bool b)
  | .int i => some (.int i)
  | .str x => some (.str x)
  | .tup ds => match D.pys ds with
    | some ks => some (.tuple ks)
    | none => none
  | .lst ds => match D.pys ds with
    | some ks => some (.list ks)
    | none => none
  | .dic _ => none
  | .pot => none
  | .ins _ _ => none
def D.pys : List D → Option (List PyData)
  | [] => some []
  | d :: ds => match D.py d with
    | none => none
    | some k => match D.pys ds with
      | none => none
      | some ks => some (k :: ks)
end

/-! ### runs with draws -/
inductive T (α : Type) where
  | ret (a : α) | fail | draw (n : Nat) (k : Nat → T α)
def T.bind {α β : Type} : T α → (α → T β) → T β
  | .ret a, f => f a
  | .fail, _ => .fail
  | .draw n k, f => .draw n fun i => (k i).bind f
def T.all {α : Type} (P : α → Prop) : T α → Prop
  | .ret a => P a
  | .fail => False
  | .draw n k => ∀ i, i < n → (k i).all P
theorem T.all_bind {α β : Type} {P : β → Prop} : ∀ {t : T α} {f : α → T β}, (t.bind f).all P ↔ t.all fun a => (f a).all P
  | .ret _, _ => Iff.rfl
  | .fail, _ => Iff.rfl
  | .draw n k, f => by
    show (∀ i, i < n → ((k i).bind f).all P) ↔ (∀ i, i < n → (k i).all fun a => (f a).all P)
    exact ⟨fun h i hi => T.all_bind.mp (h i hi), fun h i hi => T.all_bind.mpr (h i hi)⟩
theorem T.all_mono {α : Type} {P Q : α → Prop} (h : ∀ a, P a → Q a) : ∀ {t : T α}, t.all P → t.all Q
  | .ret a, x => h a x
  | .fail, x => x
  | .draw _ _, x => fun i hi => T.all_mono h (x i hi)
/-- decided -/
def T.allB {α : Type} (p : α → Bool) : T α → Bool
  | .ret a => p a
  | .fail => false
  | .draw n k => (List.range n).all fun i => (k i).allB p
theorem T.all_of {α : Type} {p : α → Bool} : ∀ {t : T α}, t.allB p = true → t.all fun a => p a = true
  | .ret _, h => h
  | .fail, h => by cases h
  | .draw n k, h => fun i hi => T.all_of (List.all_eq_true.mp h i (List.mem_range.mpr hi))

/-! ### what stands in the heap -/
def DN (P : Program) (w : World) (a : Addr) (xs : List (NestedKey × Addr × V)) : HO := .ext fun h => (a == sysModules) = false ∧ xs.length ≤ sizeLine ∧ (xs.map (·.1)).Nodup ∧ ∃ ys : List (NestedKey × Addr × Value),
  Paired (fun p q => p.1 = q.1 ∧ p.2.1 = q.2.1 ∧ RelV p.2.2 q.2.2) xs ys ∧ ∃ o es ep, h.get? a = some o ∧ o.ExactDict ∧ o.data = .dict es ep ∧ es.toList = ys.map (entryOfKey (nestedKind P w))

section
variable (K : PySem.W.Frag) (P : Program) (w : World) (π : Addr)
mutual
inductive Rv (H : Hp) : V → D → Prop
  | non : Rv H .non .non
  | bl (b : Bool) : Rv H (.bl b) (.bl b)
  | int (i : Int) : Rv H (.int i) (.int i)
  | str (x : Str) : Rv H (.str x) (.str x)
  | tup {a : Addr} {vs : List V} {ds : List D} : H a = some (.tup vs) → a ≠ π → RvL H vs ds → Rv H (.ref a) (.tup ds)
  | tupK {a : Addr} {vs : List V} {ds : List D} : (∀ H', SqT K H' a vs) → RvL H vs ds → Rv H (.ref a) (.tup ds)
  | lst {a : Addr} {vs : List V} {ds : List D} : H a = some (.lst vs) → a ≠ π → RvL H vs ds → Rv H (.ref a) (.lst ds)
  | dic {a : Addr} {od : Obj} {xs : List (NestedKey × Addr × V)} {kvs : List (D × D)} : H a = some (.frz od (DN P w a xs)) → a ≠ π → RvD H xs kvs → Rv H (.ref a) (.dic kvs)
  | pot : Rv H (.ref π) .pot
  | ins {a dx C : Addr} {c : Str} {fs : List (Str × V)} {ds : List (Str × D)} : PySem.W.nsIn K mainGlobals c = some (some (.ref C)) → H a = some (.ins C dx fs) → a ≠ π → RvF H fs ds → Rv H (.ref a) (.ins c ds)
inductive RvF (H : Hp) : List (Str × V) → List (Str × D) → Prop
  | nil : RvF H [] []
  | cons {x : Str} {v : V} {d : D} {fs : List (Str × V)} {ds : List (Str × D)} : Rv H v d → RvF H fs ds → RvF H ((x, v) :: fs) ((x, d) :: ds)
inductive RvL (H : Hp) : List V → List D → Prop
  | nil : RvL H [] []
  | cons {v : V} {d : D} {vs : List V} {ds : List D} : Rv H v d → RvL H vs ds → RvL H (v :: vs) (d :: ds)
inductive RvD (H : Hp) : List (NestedKey × Addr × V) → List (D × D) → Prop
  | nil : RvD H [] []
  | cons {k : NestedKey} {a : Addr} {v : V} {dk dv : D} {xs : List (NestedKey × Addr × V)} {kvs : List (D × D)} : dk.nk = some k → k.depth ≤ 8 → Rv H (.ref a) dk → Rv H v dv → RvD H xs kvs → RvD H ((k, a, v) :: xs) ((dk, dv) :: kvs)
end
end

/-- what is tracked (but the pot) stays -/
def Kp (π : Addr) (H H' : Hp) : Prop := ∀ a o, a ≠ π → H a = some o → H' a = some o
theorem Kp.refl {π : Addr} {H : Hp} : Kp π H H := fun _ _ _ h => h
theorem Kp.trans {π : Addr} {H H1 H2 : Hp} (a : Kp π H H1) (b : Kp π H1 H2) : Kp π H H2 := fun x o n h => b x o n (a x o n h)

section
variable {K : PySem.W.Frag} {P : Program} {w : World} {π : Addr} {H H' : Hp}
mutual
theorem Rv.mono (k : Kp π H H') : ∀ {d : D} {v : V}, Rv K P w π H v d → Rv K P w π H' v d
  | _, _, .non => .non
  | _, _, .bl b => .bl b
  | _, _, .int i => .int i
  | _, _, .str x => .str x
  | _, _, .tup h n r => .tup (k _ _ n h) n (RvL.mono k r)
  | _, _, .tupK h r => .tupK h (RvL.mono k r)
  | _, _, .lst h n r => .lst (k _ _ n h) n (RvL.mono k r)
  | _, _, .dic h n r => .dic (k _ _ n h) n (RvD.mono k r)
  | _, _, .pot => .pot
  | _, _, .ins c h n r => .ins c (k _ _ n h) n (RvF.mono k r)
theorem RvF.mono (k : Kp π H H') : ∀ {ds : List (Str × D)} {vs : List (Str × V)}, RvF K P w π H vs ds → RvF K P w π H' vs ds
  | _, _, .nil => .nil
  | _, _, .cons r t => .cons (Rv.mono k r) (RvF.mono k t)
theorem RvL.mono (k : Kp π H H') : ∀ {ds : List D} {vs : List V}, RvL K P w π H vs ds → RvL K P w π H' vs ds
  | _, _, .nil => .nil
  | _, _, .cons r t => .cons (Rv.mono k r) (RvL.mono k t)
theorem RvD.mono (k : Kp π H H') : ∀ {kvs : List (D × D)} {xs : List (NestedKey × Addr × V)}, RvD K P w π H xs kvs → RvD K P w π H' xs kvs
  | _, _, .nil => .nil
  | _, _, .cons e dp rk r t => .cons e dp (Rv.mono k rk) (Rv.mono k r) (RvD.mono k t)
end
theorem RvL.length : ∀ {ds : List D} {vs : List V}, RvL K P w π H vs ds → vs.length = ds.length
  | _, _, .nil => rfl
  | _, _, .cons _ t => congrArg Nat.succ (RvL.length t)
theorem RvL.get : ∀ {ds : List D} {vs : List V} {i : Nat} {d : D}, RvL K P w π H vs ds → ds[i]? = some d → ∃ v, vs[i]? = some v ∧ Rv K P w π H v d
  | _, _, _, _, .nil, e => by simp at e
  | _, _, 0, _, .cons r _, e => by simp at e; subst e; exact ⟨_, rfl, r⟩
  | _, _, i + 1, _, .cons _ t, e => RvL.get (i := i) t e
theorem RvL.get' : ∀ {ds : List D} {vs : List V} {i : Nat} {v : V}, RvL K P w π H vs ds → vs[i]? = some v → ∃ d, ds[i]? = some d ∧ Rv K P w π H v d
  | _, _, _, _, .nil, e => by simp at e
  | _, _, 0, _, .cons r _, e => by simp at e; subst e; exact ⟨_, rfl, r⟩
  | _, _, i + 1, _, .cons _ t, e => RvL.get' (i := i) t e
theorem RvL.append : ∀ {ds es : List D} {vs us : List V}, RvL K P w π H vs ds → RvL K P w π H us es → RvL K P w π H (vs ++ us) (ds ++ es)
  | _, _, _, _, .nil, s => s
  | _, _, _, _, .cons r t, s => .cons r (RvL.append t s)
theorem RvL.set {x : V} {d : D} (r : Rv K P w π H x d) : ∀ {ds : List D} {vs : List V} (i : Nat), RvL K P w π H vs ds → RvL K P w π H (vs.set i x) (ds.set i d)
  | _, _, _, .nil => .nil
  | _, _, 0, .cons _ t => .cons r t
  | _, _, i + 1, .cons q t => .cons q (RvL.set r i t)
theorem RvL.take : ∀ {ds : List D} {vs : List V} (n : Nat), RvL K P w π H vs ds → RvL K P w π H (vs.take n) (ds.take n)
  | _, _, 0, _ => .nil
  | _, _, _ + 1, .nil => .nil
  | _, _, n + 1, .cons r t => .cons r (RvL.take n t)
theorem RvL.drop : ∀ {ds : List D} {vs : List V} (n : Nat), RvL K P w π H vs ds → RvL K P w π H (vs.drop n) (ds.drop n)
  | _, _, 0, r => r
  | _, _, _ + 1, .nil => .nil
  | _, _, n + 1, .cons _ t => RvL.drop n t
end

def Hide (N : Addr → Bool) (H : Hp) : Hp := fun a => if N a = true then none else H a
theorem hide_some {N : Addr → Bool} {H : Hp} {a : Addr} {o : HO} (h : Hide N H a = some o) : N a = false ∧ H a = some o := by
  unfold Hide at h
  by_cases n : N a = true
  · rw [if_pos n] at h
    cases h
  · rw [if_neg n] at h
    exact ⟨by simpa using n, h⟩
theorem hide_in {N : Addr → Bool} {H : Hp} {a : Addr} (n : N a = false) : Hide N H a = H a := by
  unfold Hide
  rw [if_neg (by rw [n]; exact Bool.false_ne_true)]
theorem Kp.hide {π : Addr} {N : Addr → Bool} {H H' : Hp} (k : Kp π H H') : Kp π (Hide N H) (Hide N H') := fun a o n h => by
  obtain ⟨na, ha⟩ := hide_some h
  rw [hide_in na]
  exact k a o n ha
theorem Kp.unhide {π : Addr} {N : Addr → Bool} {H : Hp} : Kp π (Hide N H) H := fun _ _ _ h => (hide_some h).2
theorem Kp.less {π : Addr} {N N' : Addr → Bool} {H : Hp} (s : ∀ a, N' a = true → N a = true) : Kp π (Hide N H) (Hide N' H) := fun a o _ h => by
  obtain ⟨na, ha⟩ := hide_some h
  rw [hide_in, ha]
  cases q : N' a with
  | false => rfl
  | true => rw [s a q] at na; cases na

def PotOk (H : Hp) (π : Addr) : Prop := ∃ x y : Int, H π = some (.lst [.int x, .int y]) ∧ 0 ≤ x ∧ 0 ≤ y ∧ y < 2147483648
structure Ex (π : Addr) (H H' : Hp) : Prop where
  kp : Kp π H H'
  pot : PotOk H' π
theorem Ex.refl {π : Addr} {H : Hp} (p : PotOk H π) : Ex π H H := ⟨.refl, p⟩
theorem Ex.trans {π : Addr} {H H1 H2 : Hp} (a : Ex π H H1) (b : Ex π H1 H2) : Ex π H H2 := ⟨a.kp.trans b.kp, b.pot⟩
structure HN (π : Addr) (N : Addr → Bool) (H : Hp) : Prop where
  pot : PotOk H π
  npi : N π = false
  isS : ∀ a, N a = true → H a ≠ none
theorem HN.ext {π : Addr} {N : Addr → Bool} {H H' : Hp} (h : HN π N H) (e : Ex π H H') : HN π N H' := ⟨e.pot, h.npi, fun a n => by
  have q := h.isS a n
  have ne : a ≠ π := fun z => by rw [z, h.npi] at n; cases n
  cases c : H a with
  | none => exact absurd c q
  | some o => rw [e.kp a o ne c]; exact fun z => by cases z⟩
theorem PotOk.ne {π p : Addr} {H : Hp} (h : PotOk H π) (n : H p = none) : p ≠ π := fun e => by
  obtain ⟨x, y, q, _⟩ := h
  rw [← e, n] at q
  cases q
theorem HN.new {π p : Addr} {N : Addr → Bool} {H : Hp} (h : HN π N H) (n : H p = none) : N p = false := by
  cases c : N p with
  | false => rfl
  | true => exact absurd n (h.isS p c)
theorem Ex.new {π p : Addr} {H : Hp} {o : HO} (h : PotOk H π) (n : H p = none) : Ex π H (upd H p o) := ⟨fun a u _ e => by
  rw [upd_ne (ne_of_none e n)]
  exact e, by
  obtain ⟨x, y, q, r⟩ := h
  exact ⟨x, y, by rw [upd_ne (ne_of_none q n)]; exact q, r⟩⟩
theorem hide_new {p : Addr} {N : Addr → Bool} {H : Hp} {o : HO} (n : N p = false) : Hide N (upd H p o) p = some o := by
  rw [hide_in n, upd_same]

/-! ### the names of a def -/
inductive Ent where
  | un | val (d : D) | own (ds : List D) | ownD (kvs : List (D × D)) | ownI (c : Str) (fs : List (Str × D))
abbrev Rho := List Ent
def Ent.isOwn : Ent → Bool
  | .own _ => true
  | .ownD _ => true
  | .ownI _ _ => true
  | _ => false
/-- what stands at l for an own thing -/
def OwnAt (K : PySem.W.Frag) (P : Program) (w : World) (π : Addr) (H : Hp) (l : Addr) (o : HO) : Ent → Prop
  | .own ds => ∃ vs, o = .lst vs ∧ RvL K P w π H vs ds
  | .ownD kvs => ∃ xs, o = DN P w l xs ∧ RvD K P w π H xs kvs
  | .ownI c fs => ∃ C dx vs, o = .ins C dx vs ∧ PySem.W.nsIn K mainGlobals c = some (some (.ref C)) ∧ RvF K P w π H vs fs
  | _ => False
theorem OwnAt.isOwn {K : PySem.W.Frag} {P : Program} {w : World} {π l : Addr} {H : Hp} {o : HO} : ∀ {x : Ent}, OwnAt K P w π H l o x → x.isOwn = true
  | .own _, _ => rfl
  | .ownD _, _ => rfl
  | .ownI _ _, _ => rfl
theorem OwnAt.mono {K : PySem.W.Frag} {P : Program} {w : World} {π l : Addr} {H H' : Hp} {o : HO} (k : Kp π H H') : ∀ {x : Ent}, OwnAt K P w π H l o x → OwnAt K P w π H' l o x
  | .own _, ⟨vs, e, r⟩ => ⟨vs, e, r.mono k⟩
  | .ownD _, ⟨vs, e, r⟩ => ⟨vs, e, r.mono k⟩
  | .ownI _ _, ⟨C, dx, vs, e, c, r⟩ => ⟨C, dx, vs, e, c, r.mono k⟩

structure EnvOk (K : PySem.W.Frag) (P : Program) (w : World) (π : Addr) (N0 : Addr → Bool) (H0 : Hp) (N : Addr → Bool) (H : Hp) (σ : L2.St) (ρ : Rho) : Prop where
  hn : HN π N H
  ex : Kp π H0 H
  sub : ∀ a, N0 a = true → N a = true
  own0 : ∀ a, N a = true → N0 a = true ∨ H0 a = none
  len : σ.length = ρ.length
  val : ∀ (i : Nat) (d : D), ρ[i]? = some (.val d) → ∃ v, σ[i]? = some (some v) ∧ Rv K P w π (Hide N H) v d
  own : ∀ (i : Nat) (x : Ent), ρ[i]? = some x → x.isOwn = true → ∃ l o, σ[i]? = some (some (.ref l)) ∧ N l = true ∧ N0 l = false ∧ H l = some o ∧ OwnAt K P w π (Hide N H) l o x
  inj : ∀ (i j : Nat) (e f : Ent) (l : Addr), ρ[i]? = some e → ρ[j]? = some f → e.isOwn = true → f.isOwn = true → σ[i]? = some (some (.ref l)) → σ[j]? = some (some (.ref l)) → i = j

section
variable {K : PySem.W.Frag} {P : Program} {w : World} {π : Addr} {N0 N : Addr → Bool} {H0 H H' : Hp} {σ : L2.St} {ρ : Rho}
theorem EnvOk.lst (I : EnvOk K P w π N0 H0 N H σ ρ) (i : Nat) (ds : List D) (h : ρ[i]? = some (.own ds)) : ∃ l vs, σ[i]? = some (some (.ref l)) ∧ N l = true ∧ N0 l = false ∧ H l = some (.lst vs) ∧ RvL K P w π (Hide N H) vs ds := by
  obtain ⟨l, o, a, n, n0, b, vs, rfl, r⟩ := I.own i _ h rfl
  exact ⟨l, vs, a, n, n0, b, r⟩
theorem EnvOk.dic (I : EnvOk K P w π N0 H0 N H σ ρ) (i : Nat) (kvs : List (D × D)) (h : ρ[i]? = some (.ownD kvs)) : ∃ l xs, σ[i]? = some (some (.ref l)) ∧ N l = true ∧ N0 l = false ∧ H l = some (DN P w l xs) ∧ RvD K P w π (Hide N H) xs kvs := by
  obtain ⟨l, o, a, n, n0, b, vs, rfl, r⟩ := I.own i _ h rfl
  exact ⟨l, vs, a, n, n0, b, r⟩
theorem EnvOk.obj (I : EnvOk K P w π N0 H0 N H σ ρ) (i : Nat) (c : Str) (fs : List (Str × D)) (h : ρ[i]? = some (.ownI c fs)) : ∃ l C dx vs, σ[i]? = some (some (.ref l)) ∧ N l = true ∧ N0 l = false ∧ H l = some (.ins C dx vs) ∧ PySem.W.nsIn K mainGlobals c = some (some (.ref C)) ∧ RvF K P w π (Hide N H) vs fs := by
  obtain ⟨l, o, a, n, n0, b, C, dx, vs, rfl, c, r⟩ := I.own i _ h rfl
  exact ⟨l, C, dx, vs, a, n, n0, b, c, r⟩
theorem EnvOk.ext (I : EnvOk K P w π N0 H0 N H σ ρ) (e : Ex π H H') : EnvOk K P w π N0 H0 N H' σ ρ where
  hn := I.hn.ext e
  ex := I.ex.trans e.kp
  sub := I.sub
  own0 := I.own0
  len := I.len
  val := fun i d h => let ⟨v, a, b⟩ := I.val i d h; ⟨v, a, b.mono e.kp.hide⟩
  own := fun i x h ho => let ⟨l, o, a, n, n0, b, c⟩ := I.own i x h ho
    ⟨l, o, a, n, n0, e.kp l _ (fun z => by rw [z, I.hn.npi] at n; cases n) b, c.mono e.kp.hide⟩
  inj := I.inj
/-- a name gets a value -/
theorem EnvOk.set {i : Nat} {v : V} {d : D} (I : EnvOk K P w π N0 H0 N H σ ρ) (r : Rv K P w π (Hide N H) v d) : EnvOk K P w π N0 H0 N H (σ.set i (some v)) (ρ.set i (.val d)) where
  hn := I.hn
  ex := I.ex
  sub := I.sub
  own0 := I.own0
  len := by rw [List.length_set, List.length_set]; exact I.len
  val := fun j e h => by
    by_cases q : i = j
    · subst q
      have hl : i < ρ.length := by
        have z := (List.getElem?_eq_some_iff.mp h).1
        rw [List.length_set] at z
        exact z
      rw [List.getElem?_set_self hl] at h
      cases h
      exact ⟨v, List.getElem?_set_self (by rw [I.len]; exact hl), r⟩
    · rw [List.getElem?_set_ne q] at h ⊢
      exact I.val j e h
  own := fun j x h ho => by
    by_cases q : i = j
    · subst q
      have hl : i < ρ.length := by
        have z := (List.getElem?_eq_some_iff.mp h).1
        rw [List.length_set] at z
        exact z
      rw [List.getElem?_set_self hl] at h
      cases h
      cases ho
    · rw [List.getElem?_set_ne q] at h ⊢
      exact I.own j x h ho
  inj := fun j k e f l h1 h2 o1 o2 s1 s2 => by
    have aux : ∀ {j : Nat} {e : Ent}, (ρ.set i (.val d))[j]? = some e → e.isOwn = true → i ≠ j := fun {j e} h1 o1 q => by
      subst q
      have hl : i < ρ.length := by
        have z := (List.getElem?_eq_some_iff.mp h1).1
        rw [List.length_set] at z
        exact z
      rw [List.getElem?_set_self hl] at h1
      cases h1
      cases o1
    have nj := aux h1 o1
    have nk := aux h2 o2
    rw [List.getElem?_set_ne nj] at h1 s1
    rw [List.getElem?_set_ne nk] at h2 s2
    exact I.inj j k e f l h1 h2 o1 o2 s1 s2
end
end Pd

namespace Pd
open PySem L2

section
variable {K : PySem.W.Frag} {P : Program} {w : World} {π : Addr} {N0 N N' : Addr → Bool} {H0 H H' : Hp} {σ σ' : L2.St} {ρ ρ' : Rho}
theorem at_set {α : Type} {l : List α} {i j : Nat} {x y : α} (h : (l.set i x)[j]? = some y) : (i = j ∧ i < l.length ∧ x = y) ∨ (i ≠ j ∧ l[j]? = some y) := by
  by_cases q : i = j
  · subst q
    have hl : i < l.length := by
      have z := (List.getElem?_eq_some_iff.mp h).1
      rw [List.length_set] at z
      exact z
    rw [List.getElem?_set_self hl] at h
    exact .inl ⟨rfl, hl, Option.some.inj h⟩
  · rw [List.getElem?_set_ne q] at h
    exact .inr ⟨q, h⟩
def plus (N : Addr → Bool) (l : Addr) : Addr → Bool := fun a => N a || a == l
def minus (N : Addr → Bool) (l : Addr) : Addr → Bool := fun a => N a && a != l
theorem plus_old {l a : Addr} (h : N a = true) : plus N l a = true := by simp [plus, h]
theorem plus_self {l : Addr} : plus N l l = true := by simp [plus]
theorem plus_or {l a : Addr} (h : plus N l a = true) : N a = true ∨ a = l := by simpa [plus] using h
theorem minus_of {l a : Addr} (h : N a = true) (n : a ≠ l) : minus N l a = true := by simp [minus, h, n]
theorem minus_in {l a : Addr} (h : minus N l a = true) : N a = true ∧ a ≠ l := by simpa [minus] using h
theorem minus_self {l : Addr} : minus N l l = false := by simp [minus]

theorem N_ne (hn : HN π N H) {l : Addr} (h : N l = true) : l ≠ π := fun z => by rw [z, hn.npi] at h; cases h
theorem Ex.hidden (e : Ex π H H') {l : Addr} (hl : H l = none) : Kp π (Hide N H) (Hide (plus N l) H') := fun a o n h => by
  obtain ⟨na, ha⟩ := hide_some h
  have ne : a ≠ l := fun z => by rw [z, hl] at ha; cases ha
  rw [hide_in (by simp [plus, na, ne])]
  exact e.kp a o n ha
/-- what a new own thing leaves -/
theorem EnvOk.newOwn {i : Nat} {l : Addr} {x : Ent} {o : HO} (I : EnvOk K P w π N0 H0 N H σ ρ) (e : Ex π H H') (hl : H l = none) (ho : H' l = some o) (hx : OwnAt K P w π (Hide (plus N l) H') l o x) :
    EnvOk K P w π N0 H0 (plus N l) H' (σ.set i (some (.ref l))) (ρ.set i x) := by
  have hl' : H' l ≠ none := by rw [ho]; exact fun z => by cases z
  have lpi : l ≠ π := I.hn.pot.ne hl
  have Nl : N l = false := I.hn.new hl
  have N0l : N0 l = false := by
    cases c : N0 l with
    | false => rfl
    | true => rw [I.sub l c] at Nl; cases Nl
  have keep : ∀ {l' : Addr} {o : HO}, N l' = true → H l' = some o → l' ≠ l ∧ H' l' = some o := fun {l' o} n h => ⟨(fun z => by rw [z, Nl] at n; cases n), e.kp l' o (N_ne I.hn n) h⟩
  refine ⟨⟨e.pot, by simp [plus, I.hn.npi, lpi.symm], fun a h => ?_⟩, I.ex.trans e.kp, fun a h => plus_old (I.sub a h), fun a h => ?_, ?_, fun j d h => ?_, fun j y h yo => ?_, ?_⟩
  · rcases plus_or h with h | h
    · exact (I.hn.ext e).isS a h
    · rw [h]; exact hl'
  · rcases plus_or h with h | h
    · exact I.own0 a h
    · refine .inr ?_
      rw [h]
      cases c : H0 l with
      | none => rfl
      | some o => rw [I.ex l o lpi c] at hl; cases hl
  · rw [List.length_set, List.length_set]; exact I.len
  · rcases at_set h with ⟨rfl, hi, q⟩ | ⟨q, h⟩
    · subst q; exact hx.elim
    · obtain ⟨v, a, b⟩ := I.val j d h
      exact ⟨v, by rw [List.getElem?_set_ne q]; exact a, b.mono (e.hidden hl)⟩
  · rcases at_set h with ⟨rfl, hi, q⟩ | ⟨q, h⟩
    · subst q
      exact ⟨l, o, List.getElem?_set_self (by rw [I.len]; exact hi), plus_self, N0l, ho, hx⟩
    · obtain ⟨l', o', a, n, n0, b, c⟩ := I.own j y h yo
      exact ⟨l', o', by rw [List.getElem?_set_ne q]; exact a, plus_old n, n0, (keep n b).2, c.mono (e.hidden hl)⟩
  · -- another own thing stands elsewhere
    have other : ∀ {j : Nat} {f : Ent} {l' : Addr}, ρ[j]? = some f → f.isOwn = true → σ[j]? = some (some (.ref l')) → l' ≠ l := fun {j f l'} h1 o1 s1 => by
      obtain ⟨l2, o2, a, n, _, b, _⟩ := I.own j f h1 o1
      rw [s1] at a
      cases a
      exact (keep n b).1
    intro j k f g l' h1 h2 o1 o2 s1 s2
    rcases at_set h1 with ⟨rfl, hi, q⟩ | ⟨q, h1⟩
    · rw [List.getElem?_set_self (by rw [I.len]; exact hi)] at s1
      cases s1
      rcases at_set h2 with ⟨rfl, _, _⟩ | ⟨q2, h2⟩
      · rfl
      · rw [List.getElem?_set_ne q2] at s2
        exact absurd rfl (other h2 o2 s2)
    · rw [List.getElem?_set_ne q] at s1
      rcases at_set h2 with ⟨rfl, hi, q2⟩ | ⟨q2, h2⟩
      · rw [List.getElem?_set_self (by rw [I.len]; exact hi)] at s2
        cases s2
        exact absurd rfl (other h1 o1 s1)
      · rw [List.getElem?_set_ne q2] at s2
        exact I.inj j k f g l' h1 h2 o1 o2 s1 s2
theorem EnvOk.newAny {i : Nat} {l : Addr} {x : Ent} (I : EnvOk K P w π N0 H0 N H σ ρ) (e : Ex π H H') (hl : H l = none) (_hl' : H' l ≠ none)
    (hx : (∃ vs ds, x = .own ds ∧ H' l = some (.lst vs) ∧ RvL K P w π (Hide (plus N l) H') vs ds) ∨ (∃ xs kvs, x = .ownD kvs ∧ H' l = some (DN P w l xs) ∧ RvD K P w π (Hide (plus N l) H') xs kvs)) :
    EnvOk K P w π N0 H0 (plus N l) H' (σ.set i (some (.ref l))) (ρ.set i x) := by
  rcases hx with ⟨vs, ds, rfl, h, r⟩ | ⟨xs, kvs, rfl, h, r⟩
  · exact I.newOwn e hl h ⟨vs, rfl, r⟩
  · exact I.newOwn e hl h ⟨xs, rfl, r⟩
/-- an own thing changes -/
theorem EnvOk.upOwn {i : Nat} {l : Addr} {x y : Ent} {o : HO} (I : EnvOk K P w π N0 H0 N H σ ρ) (hi : ρ[i]? = some y) (hy : y.isOwn = true) (hs : σ[i]? = some (some (.ref l))) (nl : N l = true) (n0 : N0 l = false) (hx : OwnAt K P w π (Hide N H) l o x) :
    EnvOk K P w π N0 H0 N (upd H l o) σ (ρ.set i x) := by
  have lpi := N_ne I.hn nl
  have e : Hide N (upd H l o) = Hide N H := by
    funext a
    by_cases q : a = l
    · subst q; simp [Hide, nl]
    · unfold Hide; rw [upd_ne q]
  have other : ∀ {j : Nat} {f : Ent} {l' : Addr}, i ≠ j → ρ[j]? = some f → f.isOwn = true → σ[j]? = some (some (.ref l')) → l' ≠ l := fun {j f l'} ne h1 o1 s1 z => by
    subst z
    exact ne (I.inj i j y f l' hi h1 hy o1 hs s1)
  refine ⟨⟨?_, I.hn.npi, fun a h => ?_⟩, fun a u n h => ?_, I.sub, I.own0, ?_, fun j d h => ?_, fun j z h zo => ?_, ?_⟩
  · obtain ⟨x, y, q, r⟩ := I.hn.pot
    exact ⟨x, y, by rw [upd_ne lpi.symm]; exact q, r⟩
  · by_cases q : a = l
    · subst q; rw [upd_same]; exact fun z => by cases z
    · rw [upd_ne q]; exact I.hn.isS a h
  · by_cases q : a = l
    · subst q
      rcases I.own0 a nl with z | z
      · rw [n0] at z; cases z
      · rw [z] at h; cases h
    · rw [upd_ne q]; exact I.ex a u n h
  · rw [List.length_set]; exact I.len
  · rw [e]
    rcases at_set h with ⟨rfl, _, q⟩ | ⟨q, h⟩
    · subst q; exact hx.elim
    · exact I.val j d h
  · rw [e]
    rcases at_set h with ⟨rfl, _, q⟩ | ⟨q, h⟩
    · subst q
      exact ⟨l, o, hs, nl, n0, upd_same, hx⟩
    · obtain ⟨l', o', a, n, n0, b, c⟩ := I.own j z h zo
      exact ⟨l', o', a, n, n0, by rw [upd_ne (other q h zo a)]; exact b, c⟩
  · intro j k f g l' h1 h2 o1 o2 s1 s2
    have back : ∀ {j : Nat} {f : Ent}, (ρ.set i x)[j]? = some f → f.isOwn = true → ∃ f', ρ[j]? = some f' ∧ f'.isOwn = true := fun {j f} h o1 => by
      rcases at_set h with ⟨rfl, _, _⟩ | ⟨_, h⟩
      · exact ⟨y, hi, hy⟩
      · exact ⟨f, h, o1⟩
    obtain ⟨f', a1, b1⟩ := back h1 o1
    obtain ⟨g', a2, b2⟩ := back h2 o2
    exact I.inj j k f' g' l' a1 a2 b1 b2 s1 s2
theorem EnvOk.upAny {i : Nat} {l : Addr} {x y : Ent} {o : HO} (I : EnvOk K P w π N0 H0 N H σ ρ) (hi : ρ[i]? = some y) (hy : y.isOwn = true) (hs : σ[i]? = some (some (.ref l))) (nl : N l = true) (n0 : N0 l = false)
    (hx : (∃ vs ds, x = .own ds ∧ o = .lst vs ∧ RvL K P w π (Hide N H) vs ds) ∨ (∃ xs kvs, x = .ownD kvs ∧ o = DN P w l xs ∧ RvD K P w π (Hide N H) xs kvs)) :
    EnvOk K P w π N0 H0 N (upd H l o) σ (ρ.set i x) := by
  rcases hx with ⟨vs, ds, rfl, h, r⟩ | ⟨xs, kvs, rfl, h, r⟩
  · exact I.upOwn hi hy hs nl n0 ⟨vs, h, r⟩
  · exact I.upOwn hi hy hs nl n0 ⟨xs, h, r⟩
/-- an own list, an own instance is a value from now on -/
theorem EnvOk.freezeAny {i : Nat} {y : Ent} {d : D} (I : EnvOk K P w π N0 H0 N H σ ρ) (hi : ρ[i]? = some y) (hy : (∃ ds, y = .own ds ∧ d = .lst ds) ∨ (∃ c fs, y = .ownI c fs ∧ d = .ins c fs)) :
    ∃ N', EnvOk K P w π N0 H0 N' H σ (ρ.set i (.val d)) := by
  have yo : y.isOwn = true := by rcases hy with ⟨_, rfl, _⟩ | ⟨_, _, rfl, _⟩ <;> rfl
  obtain ⟨l, o, hs, nl, n0, hb, hc⟩ := I.own i y hi yo
  have lpi := N_ne I.hn nl
  have k : Kp π (Hide N H) (Hide (minus N l) H) := Kp.less fun a h => (minus_in h).1
  have other : ∀ {j : Nat} {f : Ent} {l' : Addr}, i ≠ j → ρ[j]? = some f → f.isOwn = true → σ[j]? = some (some (.ref l')) → l' ≠ l := fun {j f l'} ne h1 o1 s1 z => by
    subst z
    exact ne (I.inj i j _ f l' hi h1 yo o1 hs s1)
  refine ⟨minus N l, ⟨I.hn.pot, ?_, fun a h => I.hn.isS a (minus_in h).1⟩, I.ex, fun a h => ?_, fun a h => I.own0 a (minus_in h).1, by rw [List.length_set]; exact I.len, fun j e h => ?_, fun j x h xo => ?_, ?_⟩
  · simp [minus, I.hn.npi]
  · exact minus_of (I.sub a h) fun z => by rw [z, n0] at h; cases h
  · rcases at_set h with ⟨rfl, _, q⟩ | ⟨q, h⟩
    · cases q
      refine ⟨.ref l, hs, ?_⟩
      rcases hy with ⟨ds, rfl, rfl⟩ | ⟨c, fs, rfl, rfl⟩
      · obtain ⟨vs, rfl, r⟩ := hc
        exact .lst (by rw [hide_in minus_self]; exact hb) lpi (r.mono k)
      · obtain ⟨C, dx, vs, rfl, cc, r⟩ := hc
        exact .ins cc (by rw [hide_in minus_self]; exact hb) lpi (r.mono k)
    · obtain ⟨v, a, b⟩ := I.val j e h
      exact ⟨v, a, b.mono k⟩
  · rcases at_set h with ⟨rfl, _, q⟩ | ⟨q, h⟩
    · subst q; cases xo
    · obtain ⟨l', o', a, n, m0, b, c⟩ := I.own j x h xo
      exact ⟨l', o', a, minus_of n (other q h xo a), m0, b, c.mono k⟩
  · intro j k f g l' h1 h2 o1 o2 s1 s2
    rcases at_set h1 with ⟨rfl, _, q⟩ | ⟨_, h1⟩
    · subst q; cases o1
    · rcases at_set h2 with ⟨rfl, _, q⟩ | ⟨_, h2⟩
      · subst q; cases o2
      · exact I.inj j k f g l' h1 h2 o1 o2 s1 s2
theorem EnvOk.freeze {i : Nat} {ds : List D} (I : EnvOk K P w π N0 H0 N H σ ρ) (hi : ρ[i]? = some (.own ds)) : ∃ N', EnvOk K P w π N0 H0 N' H σ (ρ.set i (.val (.lst ds))) := I.freezeAny hi (.inl ⟨ds, rfl, rfl⟩)
/-- an own dict is a value from now on: locked -/
theorem EnvOk.freezeD {i : Nat} {kvs : List (D × D)} (I : EnvOk K P w π N0 H0 N H σ ρ) (hi : ρ[i]? = some (.ownD kvs)) :
    ∃ l xs N', H l = some (DN P w l xs) ∧ ∀ od, EnvOk K P w π N0 H0 N' (upd H l (.frz od (DN P w l xs))) σ (ρ.set i (.val (.dic kvs))) := by
  obtain ⟨l, xs, hs, nl, n0, hb, hc⟩ := I.dic i kvs hi
  have lpi := N_ne I.hn nl
  refine ⟨l, xs, minus N l, hb, fun od => ?_⟩
  have k : Kp π (Hide N H) (Hide (minus N l) (upd H l (.frz od (DN P w l xs)))) := fun a o n h => by
    obtain ⟨na, ha⟩ := hide_some h
    have ne : a ≠ l := fun z => by rw [z, nl] at na; cases na
    rw [hide_in (by simp [minus, na]), upd_ne ne]
    exact ha
  have other : ∀ {j : Nat} {f : Ent} {l' : Addr}, i ≠ j → ρ[j]? = some f → f.isOwn = true → σ[j]? = some (some (.ref l')) → l' ≠ l := fun {j f l'} ne h1 o1 s1 z => by
    subst z
    exact ne (I.inj i j _ f l' hi h1 rfl o1 hs s1)
  refine ⟨⟨?_, ?_, fun a h => ?_⟩, fun a u n h => ?_, fun a h => ?_, fun a h => I.own0 a (minus_in h).1, by rw [List.length_set]; exact I.len, fun j e h => ?_, fun j x h xo => ?_, ?_⟩
  · obtain ⟨x, y, q, r⟩ := I.hn.pot
    exact ⟨x, y, by rw [upd_ne lpi.symm]; exact q, r⟩
  · simp [minus, I.hn.npi]
  · rw [upd_ne (minus_in h).2]; exact I.hn.isS a (minus_in h).1
  · by_cases q : a = l
    · subst q
      rcases I.own0 a nl with z | z
      · rw [n0] at z; cases z
      · rw [z] at h; cases h
    · rw [upd_ne q]; exact I.ex a u n h
  · exact minus_of (I.sub a h) fun z => by rw [z, n0] at h; cases h
  · rcases at_set h with ⟨rfl, _, q⟩ | ⟨q, h⟩
    · cases q
      exact ⟨.ref l, hs, .dic (by rw [hide_in minus_self, upd_same]) lpi (hc.mono k)⟩
    · obtain ⟨v, a, b⟩ := I.val j e h
      exact ⟨v, a, b.mono k⟩
  · rcases at_set h with ⟨rfl, _, q⟩ | ⟨q, h⟩
    · subst q; cases xo
    · obtain ⟨l', o', a, n, m0, b, c⟩ := I.own j x h xo
      exact ⟨l', o', a, minus_of n (other q h xo a), m0, by rw [upd_ne (other q h xo a)]; exact b, c.mono k⟩
  · intro j k f g l' h1 h2 o1 o2 s1 s2
    rcases at_set h1 with ⟨rfl, _, q⟩ | ⟨_, h1⟩
    · subst q; cases o1
    · rcases at_set h2 with ⟨rfl, _, q⟩ | ⟨_, h2⟩
      · subst q; cases o2
      · exact I.inj j k f g l' h1 h2 o1 o2 s1 s2
/-- a name without a value -/
theorem EnvOk.wipe1 {i : Nat} (I : EnvOk K P w π N0 H0 N H σ ρ) : EnvOk K P w π N0 H0 N H (σ.set i none) (ρ.set i .un) := by
  refine ⟨I.hn, I.ex, I.sub, I.own0, by rw [List.length_set, List.length_set]; exact I.len, fun j d h => ?_, fun j d h xo => ?_, fun j k f g l h1 h2 o1 o2 s1 s2 => ?_⟩
  · rcases at_set h with ⟨rfl, _, q⟩ | ⟨q, h⟩
    · cases q
    · rw [List.getElem?_set_ne q]; exact I.val j d h
  · rcases at_set h with ⟨rfl, _, q⟩ | ⟨q, h⟩
    · subst q; cases xo
    · rw [List.getElem?_set_ne q]; exact I.own j d h xo
  · rcases at_set h1 with ⟨rfl, _, q⟩ | ⟨q, h1⟩
    · subst q; cases o1
    · rcases at_set h2 with ⟨rfl, _, q2⟩ | ⟨q2, h2⟩
      · subst q2; cases o2
      · rw [List.getElem?_set_ne q] at s1
        rw [List.getElem?_set_ne q2] at s2
        exact I.inj j k f g l h1 h2 o1 o2 s1 s2
/-! what stays through a loop -/
def baseOf (N0 N : Addr → Bool) (H : Hp) : Hp := fun a => if (N a && !N0 a) = true then none else H a
theorem base_some {a : Addr} {o : HO} (h : baseOf N0 N H a = some o) : (N a = false ∨ N0 a = true) ∧ H a = some o := by
  unfold baseOf at h
  by_cases c : (N a && !N0 a) = true
  · rw [if_pos c] at h; cases h
  · rw [if_neg c] at h
    refine ⟨?_, h⟩
    cases h1 : N a with
    | false => exact .inl rfl
    | true =>
      cases h2 : N0 a with
      | true => exact .inr rfl
      | false => rw [h1, h2] at c; exact absurd rfl c
theorem base_in {a : Addr} (h : N a = false ∨ N0 a = true) : baseOf N0 N H a = H a := by
  unfold baseOf
  rw [if_neg]
  rcases h with h | h <;> simp [h]
theorem EnvOk.rebase (I : EnvOk K P w π N0 H0 N H σ ρ) : EnvOk K P w π N0 (baseOf N0 N H) N H σ ρ where
  hn := I.hn
  ex := fun a o _ h => (base_some h).2
  sub := I.sub
  own0 := fun a h => by
    cases c : N0 a with
    | true => exact .inl rfl
    | false =>
      refine .inr ?_
      unfold baseOf
      rw [if_pos (by simp [h, c])]
  len := I.len
  val := I.val
  own := I.own
  inj := I.inj
theorem EnvOk.base_kp (I : EnvOk K P w π N0 H0 N H σ ρ) : Kp π H0 (baseOf N0 N H) := fun a o n h => by
  rw [base_in ?_]
  · exact I.ex a o n h
  · cases c : N a with
    | false => exact .inl rfl
    | true =>
      rcases I.own0 a c with z | z
      · exact .inr z
      · rw [z] at h; cases h
theorem EnvOk.unbase (I : EnvOk K P w π N0 H0 N H σ ρ) (J : EnvOk K P w π N0 (baseOf N0 N H) N' H' σ' ρ') : EnvOk K P w π N0 H0 N' H' σ' ρ' where
  hn := J.hn
  ex := I.base_kp.trans J.ex
  sub := J.sub
  own0 := fun a h => by
    rcases J.own0 a h with z | z
    · exact .inl z
    · refine .inr ?_
      cases c : H0 a with
      | none => rfl
      | some o =>
        by_cases q : a = π
        · rw [q, J.hn.npi] at h; cases h
        · rw [I.base_kp a o q c] at z; cases z
  len := J.len
  val := J.val
  own := J.own
  inj := J.inj
theorem EnvOk.seen (I : EnvOk K P w π N0 H0 N H σ ρ) (J : EnvOk K P w π N0 (baseOf N0 N H) N' H' σ' ρ') : Kp π (Hide N H) (Hide N' H') := fun a o n h => by
  obtain ⟨na, ha⟩ := hide_some h
  have b : baseOf N0 N H a = some o := by rw [base_in (.inl na)]; exact ha
  have h1 := J.ex a o n b
  have n' : N' a = false := by
    cases c : N' a with
    | false => rfl
    | true =>
      rcases J.own0 a c with z | z
      · rw [I.sub a z] at na; cases na
      · rw [b] at z; cases z
  rw [hide_in n']
  exact h1
end

/-! ### the weakest reading of each piece -/
section
variable {X : Cx}
def wpE (X : Cx) (e : Expr) : TE := fun σ H Q => ∃ te, PE X e te ∧ te σ H Q
theorem pe_wp {e : Expr} : PE X e (wpE X e) := ⟨fun pins s σ H Q I ⟨_, h, q⟩ => h.run pins s σ H Q I q⟩
def wpT (X : Cx) (e : Expr) : TT := fun σ H Q => ∃ te, PT X e te ∧ te σ H Q
theorem pt_wp {e : Expr} : PT X e (wpT X e) := ⟨fun pins s σ H Q I ⟨_, h, q⟩ => h.run pins s σ H Q I q⟩
def wpW (X : Cx) (e : Expr) : TT := fun σ H Q => ∃ te, PW X e te ∧ te σ H Q
theorem pw_wp {e : Expr} : PW X e (wpW X e) := ⟨fun wh pins s σ H Q I ⟨_, h, q⟩ => h.run wh pins s σ H Q I q⟩
def wpA (X : Cx) (es : List Expr) : TA := fun σ H Q => ∃ te, PA X es te ∧ te σ H Q
theorem pa_wp {es : List Expr} : PA X es (wpA X es) := ⟨fun pos pins s σ H Q I ⟨_, h, q⟩ => h.run pos pins s σ H Q I q⟩
def wpS (X : Cx) (st : Stmt) : TS := fun De σ H => ∃ te, PS X st te ∧ te De σ H
theorem ps_wp {st : Stmt} : PS X st (wpS X st) := ⟨fun pins s σ H De I ⟨_, h, q⟩ => h.run pins s σ H De I q⟩
def wpSs (X : Cx) (st : List Stmt) : TS := fun De σ H => ∃ te, PSs X st te ∧ te De σ H
theorem pss_wp {st : List Stmt} : PSs X st (wpSs X st) := ⟨fun pins s σ H De I ⟨_, h, q⟩ => h.run pins s σ H De I q⟩
def wpG (X : Cx) (e : Expr) : TG := fun v σ H Q => ∃ t, PG X e t ∧ t v σ H Q
theorem pg_wp {e : Expr} : PG X e (wpG X e) := ⟨fun pins s σ H v u Q I r ⟨_, h, q⟩ => h.run pins s σ H v u Q I r q⟩
def wpI (X : Cx) (tg e : Expr) : TI := fun σ H R => ∃ t, PI X tg e t ∧ t σ H R
theorem pi_wp {tg e : Expr} : PI X tg e (wpI X tg e) := ⟨fun pins s σ H R I ⟨_, h, q⟩ => h.run pins s σ H R I q⟩
def wpOp (X : Cx) (f : Value → Value → Sem Value) : R2 := fun x y H Q => ∃ r, OpR X f r ∧ r x y H Q
theorem op_wp {f : Value → Value → Sem Value} : OpR X f (wpOp X f) := fun pins s σ H x y v u Q I rx ry ⟨_, h, q⟩ => h pins s σ H x y v u Q I rx ry q
def wpUn (X : Cx) (f : Value → Sem Value) : V → Hp → VK → Prop := fun x H Q => ∃ r, UnR X f r ∧ r x H Q
theorem un_wp {f : Value → Sem Value} : UnR X f (wpUn X f) := fun pins s σ H x v Q I rx ⟨_, h, q⟩ => h pins s σ H x v Q I rx q
def wpCa (X : Cx) (f : Value) : List V → Hp → VK → Prop := fun xs H Q => ∃ r, CallR X f r ∧ r xs H Q
theorem ca_wp {f : Value} : CallR X f (wpCa X f) := fun pins s σ H xs us Q I rx ⟨_, h, q⟩ => h pins s σ H xs us Q I rx q
end
end Pd

namespace Pd
open PySem L2

/-! ### sound readings -/
section
variable (X : Cx)
/-- what is wanted of a value that a piece hands on -/
def Kd (π : Addr) (N : Addr → Bool) (H : Hp) (Q : VK) : D → Prop := fun d => ∀ v H2, Ex π H H2 → Rv X.K X.prog X.w π (Hide N H2) v d → Q v H2
def Kl (π : Addr) (N : Addr → Bool) (H : Hp) (Q : VK) : List D → Prop := fun ds => ∀ l vs H2, Ex π H H2 → H l = none → H2 l = some (.lst vs) → RvL X.K X.prog X.w π (Hide (plus N l) H2) vs ds → Q (.ref l) H2
def Ka (π : Addr) (N : Addr → Bool) (H : Hp) (Q : List V → Hp → Prop) : List D → Prop := fun ds => ∀ vs H2, Ex π H H2 → RvL X.K X.prog X.w π (Hide N H2) vs ds → Q vs H2
def Snd (e : Expr) (m : Rho → T D) : Prop := ∀ ⦃π : Addr⦄ ⦃N0 : Addr → Bool⦄ ⦃H0 : Hp⦄ ⦃N : Addr → Bool⦄ ⦃H : Hp⦄ ⦃σ : L2.St⦄ ⦃ρ : Rho⦄ ⦃Q : VK⦄, EnvOk X.K X.prog X.w π N0 H0 N H σ ρ → (m ρ).all (Kd X π N H Q) → wpE X e σ H Q
/-- a new list -/
def SndL (e : Expr) (m : Rho → T (List D)) : Prop := ∀ ⦃π : Addr⦄ ⦃N0 : Addr → Bool⦄ ⦃H0 : Hp⦄ ⦃N : Addr → Bool⦄ ⦃H : Hp⦄ ⦃σ : L2.St⦄ ⦃ρ : Rho⦄ ⦃Q : VK⦄, EnvOk X.K X.prog X.w π N0 H0 N H σ ρ → (m ρ).all (Kl X π N H Q) → wpE X e σ H Q
def SndA (es : List Expr) (m : Rho → T (List D)) : Prop := ∀ ⦃π : Addr⦄ ⦃N0 : Addr → Bool⦄ ⦃H0 : Hp⦄ ⦃N : Addr → Bool⦄ ⦃H : Hp⦄ ⦃σ : L2.St⦄ ⦃ρ : Rho⦄ ⦃Q : List V → Hp → Prop⦄, EnvOk X.K X.prog X.w π N0 H0 N H σ ρ → (m ρ).all (Ka X π N H Q) → wpA X es σ H Q
def SndT (e : Expr) (m : Rho → T Bool) : Prop := ∀ ⦃π : Addr⦄ ⦃N0 : Addr → Bool⦄ ⦃H0 : Hp⦄ ⦃N : Addr → Bool⦄ ⦃H : Hp⦄ ⦃σ : L2.St⦄ ⦃ρ : Rho⦄ ⦃Q : Bool → Hp → Prop⦄, EnvOk X.K X.prog X.w π N0 H0 N H σ ρ → (m ρ).all (fun b => ∀ H2, Ex π H H2 → Q b H2) → wpT X e σ H Q
def SndW (e : Expr) (m : Rho → T Bool) : Prop := ∀ ⦃π : Addr⦄ ⦃N0 : Addr → Bool⦄ ⦃H0 : Hp⦄ ⦃N : Addr → Bool⦄ ⦃H : Hp⦄ ⦃σ : L2.St⦄ ⦃ρ : Rho⦄ ⦃Q : Bool → Hp → Prop⦄, EnvOk X.K X.prog X.w π N0 H0 N H σ ρ → (m ρ).all (fun b => ∀ H2, Ex π H H2 → Q b H2) → wpW X e σ H Q
def OpSnd (f : Value → Value → Sem Value) (m : D → D → T D) : Prop := ∀ ⦃π : Addr⦄ ⦃N : Addr → Bool⦄ ⦃H : Hp⦄ ⦃x y : V⦄ ⦃dx dy : D⦄ ⦃Q : VK⦄, HN π N H → Rv X.K X.prog X.w π (Hide N H) x dx → Rv X.K X.prog X.w π (Hide N H) y dy → (m dx dy).all (Kd X π N H Q) → wpOp X f x y H Q
def CaSnd (f : Value) (m : List D → T D) : Prop := ∀ ⦃π : Addr⦄ ⦃N : Addr → Bool⦄ ⦃H : Hp⦄ ⦃xs : List V⦄ ⦃ds : List D⦄ ⦃Q : VK⦄, HN π N H → RvL X.K X.prog X.w π (Hide N H) xs ds → (m ds).all (Kd X π N H Q) → wpCa X f xs H Q
def CaSndL (f : Value) (m : List D → T (List D)) : Prop := ∀ ⦃π : Addr⦄ ⦃N : Addr → Bool⦄ ⦃H : Hp⦄ ⦃xs : List V⦄ ⦃ds : List D⦄ ⦃Q : VK⦄, HN π N H → RvL X.K X.prog X.w π (Hide N H) xs ds → (m ds).all (Kl X π N H Q) → wpCa X f xs H Q
end

section
variable {X : Cx} {a b c e : Expr} {es : List Expr} {ma mb m : Rho → T D} {mt mu : Rho → T Bool} {pos : Pos}
theorem Kd.up {π : Addr} {N : Addr → Bool} {H H1 : Hp} {Q : VK} {d : D} (e : Ex π H H1) (h : Kd X π N H Q d) : Kd X π N H1 Q d := fun v H2 e2 r => h v H2 (e.trans e2) r
theorem Kl.up {π : Addr} {N : Addr → Bool} {H H1 : Hp} {Q : VK} {ds : List D} (e : Ex π H H1) (h : Kl X π N H Q ds) (pt : PotOk H π) : Kl X π N H1 Q ds := fun l vs H2 e2 n1 h2 r => h l vs H2 (e.trans e2) (by
  cases c : H l with
  | none => rfl
  | some o =>
    by_cases q : l = π
    · subst q
      exact absurd n1 (fun z => (e.pot.ne z) rfl)
    · rw [e.kp l o q c] at n1; cases n1) h2 r
theorem Ka.up {π : Addr} {N : Addr → Bool} {H H1 : Hp} {Q : List V → Hp → Prop} {ds : List D} (e : Ex π H H1) (h : Ka X π N H Q ds) : Ka X π N H1 Q ds := fun v H2 e2 r => h v H2 (e.trans e2) r

def eVar (i : Nat) : Rho → T D := fun ρ => match ρ[i]? with
  | some (.val d) => .ret d
  | _ => .fail
def eC (d : D) : Rho → T D := fun _ => .ret d
def eBin (f : D → D → T D) (ma mb : Rho → T D) : Rho → T D := fun ρ => (ma ρ).bind fun x => (mb ρ).bind fun y => f x y
def asB : D → T Bool
  | .bl b => .ret b
  | _ => .fail
def eTest (m : Rho → T D) : Rho → T Bool := fun ρ => (m ρ).bind asB
def tAnd' (mt mu : Rho → T Bool) : Rho → T Bool := fun ρ => (mt ρ).bind fun b => cond b (mu ρ) (.ret false)
def tOr' (mt mu : Rho → T Bool) : Rho → T Bool := fun ρ => (mt ρ).bind fun b => cond b (.ret true) (mu ρ)
def tNot' (mt : Rho → T Bool) : Rho → T Bool := fun ρ => (mt ρ).bind fun b => .ret (!b)
def eAnd (ma mb : Rho → T D) : Rho → T D := fun ρ => (ma ρ).bind fun d => (asB d).bind fun b => cond b (mb ρ) (.ret (.bl false))
def eOr (ma mb : Rho → T D) : Rho → T D := fun ρ => (ma ρ).bind fun d => (asB d).bind fun b => cond b (.ret (.bl true)) (mb ρ)
def eNot (ma : Rho → T D) : Rho → T D := fun ρ => (ma ρ).bind fun d => (asB d).bind fun b => .ret (.bl (!b))
def eIf (mt : Rho → T Bool) (ma mb : Rho → T D) : Rho → T D := fun ρ => (mt ρ).bind fun b => cond b (ma ρ) (mb ρ)
def aNil : Rho → T (List D) := fun _ => .ret []
def aCons (ma : Rho → T D) (ms : Rho → T (List D)) : Rho → T (List D) := fun ρ => (ma ρ).bind fun d => (ms ρ).bind fun ds => .ret (d :: ds)
def small (ds : List D) : Bool := decide (ds.length ≤ 100000)
def eTup (ms : Rho → T (List D)) : Rho → T D := fun ρ => (ms ρ).bind fun ds => cond (small ds) (.ret (.tup ds)) .fail
def lLst (ms : Rho → T (List D)) : Rho → T (List D) := fun ρ => (ms ρ).bind fun ds => cond (small ds) (.ret ds) .fail
def eL (ml : Rho → T (List D)) : Rho → T D := fun ρ => (ml ρ).bind fun ds => .ret (.lst ds)
def eCall (n : Nat) (F : List D → T D) (ms : Rho → T (List D)) : Rho → T D := fun ρ => (ms ρ).bind fun ds => cond (ds.length == n) (F ds) .fail
def eCa (f : List D → T D) (ms : Rho → T (List D)) : Rho → T D := fun ρ => (ms ρ).bind f
def lCa (f : List D → T (List D)) (ms : Rho → T (List D)) : Rho → T (List D) := fun ρ => (ms ρ).bind f

theorem asB_all {P : Bool → Prop} {d : D} (h : (asB d).all P) : ∃ b, d = .bl b ∧ P b := by
  cases d <;> first | exact ⟨_, rfl, h⟩ | exact False.elim h
theorem Rv.bool {K : PySem.W.Frag} {P : Program} {w : World} {π : Addr} {H : Hp} {v : V} {b : Bool} (r : Rv K P w π H v (.bl b)) : v = .bl b := by cases r; rfl
theorem Rv.intE {K : PySem.W.Frag} {P : Program} {w : World} {π : Addr} {H : Hp} {v : V} {i : Int} (r : Rv K P w π H v (.int i)) : v = .int i := by cases r; rfl
theorem Rv.tupE {K : PySem.W.Frag} {P : Program} {w : World} {π : Addr} {N : Addr → Bool} {H : Hp} {v : V} {ds : List D} (r : Rv K P w π (Hide N H) v (.tup ds)) : ∃ a vs, v = .ref a ∧ SqT K H a vs ∧ RvL K P w π (Hide N H) vs ds := by
  cases r with
  | tup h n r => exact ⟨_, _, rfl, .inl (.inl (hide_some h).2), r⟩
  | tupK h r => exact ⟨_, _, rfl, h _, r⟩
theorem Rv.lstE {K : PySem.W.Frag} {P : Program} {w : World} {π : Addr} {N : Addr → Bool} {H : Hp} {v : V} {ds : List D} (r : Rv K P w π (Hide N H) v (.lst ds)) : ∃ a vs, v = .ref a ∧ H a = some (.lst vs) ∧ N a = false ∧ a ≠ π ∧ RvL K P w π (Hide N H) vs ds := by
  cases r with
  | lst h n r => exact ⟨_, _, rfl, (hide_some h).2, (hide_some h).1, n, r⟩

theorem sv (i : Nat) {x : Str} {pos : Pos} (hN : X.N[i]? = some x := by rfl) (hv : Vis X.env.scope x := by first | exact Or.inl rfl | exact Or.inr (Or.inl rfl) | exact Or.inr (Or.inr rfl)) (hd : (x == ("__debug__" : Str)) = false := by decide)
    (hcd : (x == ("__classdict__" : Str)) = false := by decide) : Snd X (.Name x pos) (eVar i) := fun {π N0 H0 N H σ ρ Q} I h => by
  unfold eVar at h
  split at h
  · obtain ⟨v, hs, r⟩ := I.val i _ (by assumption)
    exact ⟨_, pe_var hN hv hd hcd, v, hs, h v H (Ex.refl I.hn.pot) r⟩
  · exact False.elim h
theorem s_int {i j} : Snd X (.Constant (.int i) j pos) (eC (.int i)) := fun {_ _ _ _ _ _ _ _} I h => ⟨_, pe_int, h _ _ (Ex.refl I.hn.pot) (.int i)⟩
theorem s_bl {b j} : Snd X (.Constant (.bool b) j pos) (eC (.bl b)) := fun {_ _ _ _ _ _ _ _} I h => ⟨_, pe_bl, h _ _ (Ex.refl I.hn.pot) (.bl b)⟩
theorem s_non {j} : Snd X (.Constant .none j pos) (eC .non) := fun {_ _ _ _ _ _ _ _} I h => ⟨_, pe_non, h _ _ (Ex.refl I.hn.pot) .non⟩
theorem s_str {x j} : Snd X (.Constant (.str x) j pos) (eC (.str x)) := fun {_ _ _ _ _ _ _ _} I h => ⟨_, pe_str, h _ _ (Ex.refl I.hn.pot) (.str x)⟩
/-- a constant of the module -/
theorem s_glob {x : Str} {v : V} {u : Value} {d : D} (hg : Gl X x) (hm : X.mg x = some u) (r : RelV v u) (rv : ∀ π H, Rv X.K X.prog X.w π H v d) (hd : (x == ("__debug__" : Str)) = false := by decide) : Snd X (.Name x pos) (eC d) := fun {_ _ _ _ _ _ _ _} I h => ⟨_, pe_glob hg hm r hd, h _ _ (Ex.refl I.hn.pot) (rv _ _)⟩

theorem two {f : D → D → T D} {g : Value → Value → Sem Value} (ho : OpSnd X g f) (ha : Snd X a ma) (hb : Snd X b mb) {π : Addr} {N0 : Addr → Bool} {H0 : Hp} {N : Addr → Bool} {H : Hp} {σ : L2.St} {ρ : Rho} {Q : VK}
    (I : EnvOk X.K X.prog X.w π N0 H0 N H σ ρ) (h : (eBin f ma mb ρ).all (Kd X π N H Q)) : tOp (wpOp X g) (wpE X a) (wpE X b) σ H Q := by
  refine ha I (T.all_mono (fun dx hx => ?_) (T.all_bind.mp h))
  intro v H1 e1 r1
  refine hb (I.ext e1) (T.all_mono (fun dy hy => ?_) (T.all_bind.mp hx))
  intro u H2 e2 r2
  exact ho (I.hn.ext (e1.trans e2)) (r1.mono e2.kp.hide) r2 (T.all_mono (fun _ hd => hd.up (e1.trans e2)) hy)
theorem s_bin {op : Operator} {f : D → D → T D} (ho : OpSnd X (binaryOp op) f) (ha : Snd X a ma) (hb : Snd X b mb) : Snd X (.BinOp a op b pos) (eBin f ma mb) := fun {_ _ _ _ _ _ _ _} I h => ⟨_, pe_op op_wp pe_wp pe_wp, two ho ha hb I h⟩
theorem s_cmp {op : CmpOp} {f : D → D → T D} (ho : OpSnd X (compareOp op) f) (ha : Snd X a ma) (hb : Snd X b mb) (hm : behindInMarks op b = false) : Snd X (.Compare a [op] [b] pos) (eBin f ma mb) := fun {_ _ _ _ _ _ _ _} I h => ⟨_, pe_cmpR op_wp pe_wp pe_wp hm, two ho ha hb I h⟩
theorem Kd.test {π : Addr} {N : Addr → Bool} {H : Hp} {Q : Bool → Hp → Prop} {d : D} (h : (asB d).all fun b => ∀ H2, Ex π H H2 → Q b H2) : Kd X π N H (fun x H' => ∃ k, x = .bl k ∧ Q k H') d := fun v H2 e r => by
  obtain ⟨b, rfl, q⟩ := asB_all h
  exact ⟨b, r.bool, q H2 e⟩
theorem st_cmp {op : CmpOp} {f : D → D → T D} (ho : OpSnd X (compareOp op) f) (ha : Snd X a ma) (hb : Snd X b mb) (hm : behindInMarks op b = false) : SndT X (.Compare a [op] [b] pos) (eTest (eBin f ma mb)) := fun {_ _ _ _ _ _ _ _} I h =>
  ⟨_, pt_cmpR op_wp pe_wp pe_wp hm, two ho ha hb I (T.all_mono (fun _ h => Kd.test h) (T.all_bind.mp h))⟩
theorem st_val (ha : Snd X a m) (he : ∀ whole, isTrue a X.env whole = (do let v ← whole; standAt a.pos; holding [v] (truthy v)) := by intro _; rfl) : SndT X a (eTest m) := fun {_ _ _ _ _ _ _ _} I h =>
  ⟨_, pt_val pe_wp he, ha I (T.all_mono (fun _ h => Kd.test h) (T.all_bind.mp h))⟩
theorem st_not (ha : SndT X a mt) : SndT X (.UnaryOp .Not a pos) (tNot' mt) := fun {_ _ _ _ _ _ _ _} I h => ⟨_, pt_not pt_wp, ha I (T.all_bind.mp h)⟩
theorem sw_and1 (ha : SndT X a mt) : SndW X (.BoolOp .And [a] pos) mt := fun {_ _ _ _ _ _ _ _} I h => ⟨_, pw_and1 pt_wp, ha I h⟩
theorem sw_or1 (ha : SndT X a mt) : SndW X (.BoolOp .Or [a] pos) mt := fun {_ _ _ _ _ _ _ _} I h => ⟨_, pw_or1 pt_wp, ha I h⟩
theorem sw_and {rest : List Expr} (ha : SndT X a mt) (hb : SndW X (.BoolOp .And (b :: rest) pos) mu) : SndW X (.BoolOp .And (a :: b :: rest) pos) (tAnd' mt mu) := fun {_ _ _ _ _ _ _ _} I h =>
  ⟨_, pw_and pt_wp pw_wp, ha I (T.all_mono (fun k hk H2 e => by
    cases k with
    | true => exact iteT (hb (I.ext e) (T.all_mono (fun _ q H3 e3 => q H3 (e.trans e3)) hk))
    | false => exact iteF (hk H2 e)) (T.all_bind.mp h))⟩
theorem sw_or {rest : List Expr} (ha : SndT X a mt) (hb : SndW X (.BoolOp .Or (b :: rest) pos) mu) : SndW X (.BoolOp .Or (a :: b :: rest) pos) (tOr' mt mu) := fun {_ _ _ _ _ _ _ _} I h =>
  ⟨_, pw_or pt_wp pw_wp, ha I (T.all_mono (fun k hk H2 e => by
    cases k with
    | true => exact iteT (hk H2 e)
    | false => exact iteF (hb (I.ext e) (T.all_mono (fun _ q H3 e3 => q H3 (e.trans e3)) hk))) (T.all_bind.mp h))⟩
theorem st_w (h : SndW X a mt) : SndT X a mt := fun {_ _ _ _ _ _ _ _} I q => ⟨_, pw_wp.pt, h I q⟩
theorem s_one {op} (ha : Snd X a m) : Snd X (.BoolOp op [a] pos) m := fun {_ _ _ _ _ _ _ _} I h => ⟨_, pe_one pe_wp, ha I h⟩
theorem s_and {rest : List Expr} (ha : Snd X a ma) (hb : Snd X (.BoolOp .And (b :: rest) pos) mb) : Snd X (.BoolOp .And (a :: b :: rest) pos) (eAnd ma mb) := fun {_ _ _ _ _ _ _ _} I h =>
  ⟨_, pe_and pe_wp pe_wp, ha I (T.all_mono (fun d hd v H2 e r => by
    obtain ⟨k, rfl, q⟩ := asB_all (T.all_bind.mp hd)
    refine ⟨k, r.bool, ?_⟩
    cases k with
    | true => exact iteT (hb (I.ext e) (T.all_mono (fun _ q => q.up e) q))
    | false => exact iteF (q _ H2 e (.bl false))) (T.all_bind.mp h))⟩
theorem s_or {rest : List Expr} (ha : Snd X a ma) (hb : Snd X (.BoolOp .Or (b :: rest) pos) mb) : Snd X (.BoolOp .Or (a :: b :: rest) pos) (eOr ma mb) := fun {_ _ _ _ _ _ _ _} I h =>
  ⟨_, pe_or pe_wp pe_wp, ha I (T.all_mono (fun d hd v H2 e r => by
    obtain ⟨k, rfl, q⟩ := asB_all (T.all_bind.mp hd)
    refine ⟨k, r.bool, ?_⟩
    cases k with
    | true => exact iteT (q _ H2 e (.bl true))
    | false => exact iteF (hb (I.ext e) (T.all_mono (fun _ q => q.up e) q))) (T.all_bind.mp h))⟩
theorem s_not (ha : Snd X a ma) : Snd X (.UnaryOp .Not a pos) (eNot ma) := fun {_ _ _ _ _ _ _ _} I h =>
  ⟨_, pe_not pe_wp, ha I (T.all_mono (fun d hd v H2 e r => by
    obtain ⟨k, rfl, q⟩ := asB_all (T.all_bind.mp hd)
    exact ⟨k, r.bool, q _ H2 e (.bl _)⟩) (T.all_bind.mp h))⟩
theorem s_if (hc : SndT X c mt) (ha : Snd X a ma) (hb : Snd X b mb) : Snd X (.IfExp c a b pos) (eIf mt ma mb) := fun {_ _ _ _ _ _ _ _} I h =>
  ⟨_, pe_ifExp pt_wp pe_wp pe_wp, hc I (T.all_mono (fun k hk H2 e => by
    cases k with
    | true => exact iteT (ha (I.ext e) (T.all_mono (fun _ q => q.up e) hk))
    | false => exact iteF (hb (I.ext e) (T.all_mono (fun _ q => q.up e) hk))) (T.all_bind.mp h))⟩

/-! ### argument lists, displays, calls -/
theorem sa_nil : SndA X [] aNil := fun {_ _ _ _ _ _ _ _} I h => ⟨_, pa_nil, h _ _ (Ex.refl I.hn.pot) .nil⟩
theorem sa_cons {ms : Rho → T (List D)} (ha : Snd X e m) (hr : SndA X es ms) (hs : starEach (e :: es) X.env = (false, eval e X.env) :: starEach es X.env := by rfl) : SndA X (e :: es) (aCons m ms) := fun {_ _ _ _ _ _ _ _} I h =>
  ⟨_, pa_cons pe_wp pa_wp hs, by
    refine ha I (T.all_mono (fun dx hx => ?_) (T.all_bind.mp h))
    intro v H1 e1 r1
    refine hr (I.ext e1) (T.all_mono (fun dy hy => ?_) (T.all_bind.mp hx))
    intro vs H2 e2 r2
    exact hy _ _ (e1.trans e2) (.cons (r1.mono e2.kp.hide) r2)⟩
theorem small_ok {K : PySem.W.Frag} {P : Program} {w : World} {π : Addr} {H : Hp} {vs : List V} {ds : List D} (r : RvL K P w π H vs ds) (h : small ds = true) : vs.length ≤ sizeLine := by
  rw [r.length]
  exact Nat.le_trans (of_decide_eq_true h) (by decide)
theorem cond_all {α : Type} {P : α → Prop} {b : Bool} {t : T α} (h : (cond b t .fail).all P) : b = true ∧ t.all P := by
  cases b with
  | true => exact ⟨rfl, h⟩
  | false => exact False.elim h
theorem s_tup {x1 ms} (h : SndA X es ms) : Snd X (.Tuple es x1 pos) (eTup ms) := fun {π N0 H0 N H σ ρ Q} I q => ⟨_, pe_tup pa_wp, h I (T.all_mono (fun ds hd vs H2 e r => by
  obtain ⟨hs, hd⟩ := cond_all hd
  refine ⟨small_ok r hs, fun p hp => ?_⟩
  have np := (I.hn.ext e).new hp
  exact hd _ _ (e.trans (Ex.new e.pot hp)) (.tup (hide_new np) (e.pot.ne hp) (r.mono (Ex.new e.pot hp).kp.hide))) (T.all_bind.mp q))⟩
theorem sl_lst {ms} (h : SndA X es ms) : SndL X (.List es pos) (lLst ms) := fun {π N0 H0 N H σ ρ Q} I q => ⟨_, pe_lst pa_wp, h I (T.all_mono (fun ds hd vs H2 e r => by
  obtain ⟨hs, hd⟩ := cond_all hd
  refine ⟨small_ok r hs, fun p hp => ?_⟩
  have hp0 : H p = none := by
    cases c : H p with
    | none => rfl
    | some o => rw [e.kp p o (e.pot.ne hp) c] at hp; cases hp
  exact hd p vs _ (e.trans (Ex.new e.pot hp)) hp0 upd_same (r.mono ((Ex.new e.pot hp).hidden hp))) (T.all_bind.mp q))⟩
/-- a new list as a value -/
theorem s_ofL {ml : Rho → T (List D)} (h : SndL X e ml) : Snd X e (eL ml) := fun {π N0 H0 N H σ ρ Q} I q => h I (T.all_mono (fun ds hd l vs H2 e n h2 r => by
  have lpi := I.hn.pot.ne n
  have nl : N l = false := I.hn.new n
  exact hd (.ref l) H2 e (.lst (by rw [hide_in nl]; exact h2) lpi (r.mono (Kp.less fun a h => plus_old h)))) (T.all_bind.mp q))

/-! ### what a def promises -/
end
def spD (K : PySem.W.Frag) (P : Program) (w : World) (n : Nat) (F : List D → T D) : Sp := fun vs H Q _ => ∃ (π : Addr) (N : Addr → Bool) (ds : List D), HN π N H ∧ RvL K P w π (Hide N H) vs ds ∧ vs.length = n ∧
  (F ds).all fun d => ∀ v H', Ex π H H' → Rv K P w π (Hide N H') v d → Q v H'
section
variable {X : Cx} {a b c e : Expr} {es : List Expr} {ma mb m : Rho → T D} {mt mu : Rho → T Bool} {pos : Pos}
theorem s_call {k n : Nat} {f : Addr} {fd : FuncData} {ps : List Str} {F : List D → T D} {x : Str} {p : Pos} {ms : Rho → T (List D)} (G : FnOk X.prog X.w X.K X.mg X.base CX0 k f fd ps (spD X.K X.prog X.w n F)) (hr : Room k X.A) (hm : X.mg x = some (.ref f)) (hk : PySem.W.keepIn X.K (.ref f) = true) (hb : Binds X.K fd ps [])
    (ha : SndA X (e :: es) ms) (hg : Gl X x := by rfl) (hdb : (x == ("__debug__" : Str)) = false := by decide) (he : starEach (e :: es) X.env = (false, eval e X.env) :: starEach es X.env := by rfl) (hpl : (backTo pos (starEach es X.env)).any (·.1) = false := by rfl) :
    Snd X (.Call (.Name x p) (e :: es) [] pos) (eCall n F ms) := fun {π N0 H0 N H σ ρ Q} I h =>
  ⟨_, pe_call G hr hg hm hk hb .nil pass0 pa_wp hdb he hpl, ha I (T.all_mono (fun ds hd vs H2 e1 r => by
    obtain ⟨hn, hd⟩ := cond_all hd
    show spD X.K X.prog X.w n F (vs ++ []) H2 Q E0
    rw [List.append_nil]
    exact ⟨π, N, ds, I.hn.ext e1, r, by rw [r.length]; exact by simpa using hn, T.all_mono (fun d q v H3 e3 r3 => q v H3 (e1.trans e3) r3) hd⟩) (T.all_bind.mp h))⟩
theorem s_callB {id : String} {f : List D → T D} {x : Str} {p : Pos} {ms : Rho → T (List D)} (hc : CaSnd X (.builtin id) f) (hm : X.mg x = none) (hv : bootBuiltins x = some (.builtin id)) (ha : SndA X (e :: es) ms) (hg : Gl X x := by rfl) (hn : x ≠ "__name__" := by decide) (hdb : (x == ("__debug__" : Str)) = false := by decide)
    (he : starEach (e :: es) X.env = (false, eval e X.env) :: starEach es X.env := by rfl) (hpl : (backTo pos (starEach es X.env)).any (·.1) = false := by rfl) : Snd X (.Call (.Name x p) (e :: es) [] pos) (eCa f ms) := fun {_ _ _ _ _ _ _ _} I h =>
  ⟨_, pe_callB ca_wp hg hm hv pa_wp hn hdb he hpl, ha I (T.all_mono (fun ds hd vs H2 e1 r => hc (I.hn.ext e1) r (T.all_mono (fun _ q => q.up e1) hd)) (T.all_bind.mp h))⟩
theorem s_callTy {id : String} {f : List D → T D} {x : Str} {p : Pos} {ms : Rho → T (List D)} (hc : CaSnd X (.type id) f) (hm : X.mg x = none) (hv : bootBuiltins x = some (.type id)) (ha : SndA X (e :: es) ms) (hg : Gl X x := by rfl) (hn : x ≠ "__name__" := by decide) (hdb : (x == ("__debug__" : Str)) = false := by decide)
    (he : starEach (e :: es) X.env = (false, eval e X.env) :: starEach es X.env := by rfl) (hpl : (backTo pos (starEach es X.env)).any (·.1) = false := by rfl) : Snd X (.Call (.Name x p) (e :: es) [] pos) (eCa f ms) := fun {_ _ _ _ _ _ _ _} I h =>
  ⟨_, pe_callTy ca_wp hg hm hv pa_wp hn hdb he hpl, ha I (T.all_mono (fun ds hd vs H2 e1 r => hc (I.hn.ext e1) r (T.all_mono (fun _ q => q.up e1) hd)) (T.all_bind.mp h))⟩
theorem sl_callB {id : String} {f : List D → T (List D)} {x : Str} {p : Pos} {ms : Rho → T (List D)} (hc : CaSndL X (.builtin id) f) (hm : X.mg x = none) (hv : bootBuiltins x = some (.builtin id)) (ha : SndA X (e :: es) ms) (hg : Gl X x := by rfl) (hn : x ≠ "__name__" := by decide) (hdb : (x == ("__debug__" : Str)) = false := by decide)
    (he : starEach (e :: es) X.env = (false, eval e X.env) :: starEach es X.env := by rfl) (hpl : (backTo pos (starEach es X.env)).any (·.1) = false := by rfl) : SndL X (.Call (.Name x p) (e :: es) [] pos) (lCa f ms) := fun {_ _ _ _ _ _ _ _} I h =>
  ⟨_, pe_callB ca_wp hg hm hv pa_wp hn hdb he hpl, ha I (T.all_mono (fun ds hd vs H2 e1 r => hc (I.hn.ext e1) r (T.all_mono (fun _ q => q.up e1 I.hn.pot) hd)) (T.all_bind.mp h))⟩
theorem sl_callTy {id : String} {f : List D → T (List D)} {x : Str} {p : Pos} {ms : Rho → T (List D)} (hc : CaSndL X (.type id) f) (hm : X.mg x = none) (hv : bootBuiltins x = some (.type id)) (ha : SndA X (e :: es) ms) (hg : Gl X x := by rfl) (hn : x ≠ "__name__" := by decide) (hdb : (x == ("__debug__" : Str)) = false := by decide)
    (he : starEach (e :: es) X.env = (false, eval e X.env) :: starEach es X.env := by rfl) (hpl : (backTo pos (starEach es X.env)).any (·.1) = false := by rfl) : SndL X (.Call (.Name x p) (e :: es) [] pos) (lCa f ms) := fun {_ _ _ _ _ _ _ _} I h =>
  ⟨_, pe_callTy ca_wp hg hm hv pa_wp hn hdb he hpl, ha I (T.all_mono (fun ds hd vs H2 e1 r => hc (I.hn.ext e1) r (T.all_mono (fun _ q => q.up e1 I.hn.pot) hd)) (T.all_bind.mp h))⟩
end
end Pd

namespace Pd
open PySem L2

mutual
theorem Rv.dp {K : PySem.W.Frag} {P : Program} {w : World} {π : Addr} {N : Addr → Bool} {H : Hp} : ∀ {d : D} {v : V} {p : PyData}, Rv K P w π (Hide N H) v d → d.py = some p → Dp K H v p
  | _, _, _, .non, h => by cases h; exact .non
  | _, _, _, .bl b, h => by cases h; exact .bl b
  | _, _, _, .int b, h => by cases h; exact .int b
  | _, _, _, .str b, h => by cases h; exact .str b
  | .tup ds, _, p, .tup a n r, h => by
    unfold D.py at h
    cases q : D.pys ds with
    | none => rw [q] at h; cases h
    | some ks => rw [q] at h; cases h; exact .tup (.inl (.inl (hide_some a).2)) (RvL.dp r q)
  | .tup ds, _, p, .tupK a r, h => by
    unfold D.py at h
    cases q : D.pys ds with
    | none => rw [q] at h; cases h
    | some ks => rw [q] at h; cases h; exact .tup (a _) (RvL.dp r q)
  | .lst ds, _, p, .lst a n r, h => by
    unfold D.py at h
    cases q : D.pys ds with
    | none => rw [q] at h; cases h
    | some ks => rw [q] at h; cases h; exact .lst (.inl (.inl (hide_some a).2)) (RvL.dp r q)
  | .dic _, _, _, .dic _ _ _, h => by unfold D.py at h; cases h
  | .pot, _, _, .pot, h => by unfold D.py at h; cases h
theorem RvL.dp {K : PySem.W.Frag} {P : Program} {w : World} {π : Addr} {N : Addr → Bool} {H : Hp} : ∀ {ds : List D} {vs : List V} {ps : List PyData}, RvL K P w π (Hide N H) vs ds → D.pys ds = some ps → DpAll K H vs ps
  | _, _, _, .nil, h => by unfold D.pys at h; cases h; exact .nil
  | d :: ds, _, ps, .cons r t, h => by
    unfold D.pys at h
    cases q : D.py d with
    | none => rw [q] at h; cases h
    | some k =>
      rw [q] at h
      cases q2 : D.pys ds with
      | none => rw [q2] at h; cases h
      | some ks => rw [q2] at h; cases h; exact .cons (Rv.dp r q) (RvL.dp t q2)
end

/-! ### operators by values -/
def opAdd : D → D → T D
  | .int i, .int j => .ret (.int (i + j))
  | .tup a, .tup b => cond (small (a ++ b)) (.ret (.tup (a ++ b))) .fail
  | .lst a, .lst b => cond (small (a ++ b)) (.ret (.lst (a ++ b))) .fail
  | .str x, .str y => cond (decide (x.length + y.length ≤ 100000)) (.ret (.str (x ++ y))) .fail
  | _, _ => .fail
def opSub : D → D → T D
  | .int i, .int j => .ret (.int (i - j))
  | _, _ => .fail
def lim64 (i : Int) : Bool := decide (-(2 ^ 64) < i) && decide (i < 2 ^ 64)
def rep (k : Nat) (a : List D) : List D := match k with
  | 0 => []
  | k + 1 => a ++ rep k a
def opMul : D → D → T D
  | .int i, .int j => cond (lim64 i || lim64 j) (.ret (.int (i * j))) .fail
  | .tup a, .int k => cond (decide (2 ≤ k) && decide (k ≤ 1000) && decide (a.length ≤ 100) && !a.isEmpty) (.ret (.tup (rep k.toNat a))) .fail
  | _, _ => .fail
def opFDiv : D → D → T D
  | .int i, .int j => cond (decide (0 < j) && decide (j < 1073741824)) (.ret (.int (i / j))) .fail
  | _, _ => .fail
def opMod : D → D → T D
  | .int i, .int j => cond (decide (0 < j)) (.ret (.int (i % j))) .fail
  | _, _ => .fail
def opPow : D → D → T D
  | .int i, .int j => cond (decide (0 ≤ j) && decide (j ≤ 1000) && decide (i.natAbs < 2 ^ 64)) (.ret (.int (i ^ j.toNat))) .fail
  | _, _ => .fail
def opI (f : Int → Int → Bool) : D → D → T D
  | .int i, .int j => .ret (.bl (f i j))
  | _, _ => .fail
def opLt := opI fun i j => decide (i < j)
def opLe := opI fun i j => decide (i ≤ j)
def opGt := opI fun i j => decide (j < i)
def opGe := opI fun i j => decide (j ≤ i)
def eqD (x y : D) : Option Bool := match x.py, y.py with
  | some p, some q => cond (SeqAt.shaped p && SeqAt.shaped q) (some (PyData.eqv p q)) none
  | _, _ => none
def opEq (x y : D) : T D := match eqD x y with
  | some b => .ret (.bl b)
  | none => .fail
def opNe (x y : D) : T D := match eqD x y with
  | some b => .ret (.bl (!b))
  | none => .fail
theorem eqD_some {x y : D} {b : Bool} (h : eqD x y = some b) : ∃ p q, x.py = some p ∧ y.py = some q ∧ SeqAt.shaped p = true ∧ SeqAt.shaped q = true ∧ PyData.eqv p q = b := by
  unfold eqD at h
  split at h
  · rename_i p q hp hq
    refine ⟨p, q, hp, hq, ?_⟩
    cases c : SeqAt.shaped p && SeqAt.shaped q with
    | false => rw [c] at h; cases h
    | true =>
      rw [c] at h
      have := Bool.and_eq_true_iff.mp c
      exact ⟨this.1, this.2, Option.some.inj h⟩
  · cases h

section
variable {X : Cx}
theorem Kd.new {π : Addr} {N : Addr → Bool} {H : Hp} {Q : VK} {vs : List V} {ds : List D} {p : Addr} (h : Kd X π N H Q (.tup ds)) (hn : HN π N H) (r : RvL X.K X.prog X.w π (Hide N H) vs ds) (hp : H p = none) : Q (.ref p) (upd H p (.tup vs)) :=
  h _ _ (Ex.new hn.pot hp) (.tup (hide_new (hn.new hp)) (hn.pot.ne hp) (r.mono (Ex.new hn.pot hp).kp.hide))
theorem Kd.newL {π : Addr} {N : Addr → Bool} {H : Hp} {Q : VK} {vs : List V} {ds : List D} {p : Addr} (h : Kd X π N H Q (.lst ds)) (hn : HN π N H) (r : RvL X.K X.prog X.w π (Hide N H) vs ds) (hp : H p = none) : Q (.ref p) (upd H p (.lst vs)) :=
  h _ _ (Ex.new hn.pot hp) (.lst (hide_new (hn.new hp)) (hn.pot.ne hp) (r.mono (Ex.new hn.pot hp).kp.hide))
theorem Kl.new {π : Addr} {N : Addr → Bool} {H : Hp} {Q : VK} {vs : List V} {ds : List D} {p : Addr} (h : Kl X π N H Q ds) (hn : HN π N H) (r : RvL X.K X.prog X.w π (Hide N H) vs ds) (hp : H p = none) : Q (.ref p) (upd H p (.lst vs)) :=
  h p vs _ (Ex.new hn.pot hp) hp upd_same (r.mono ((Ex.new hn.pot hp).hidden hp))
theorem RvL.nil_of {K : PySem.W.Frag} {P : Program} {w : World} {π : Addr} {H : Hp} {vs : List V} {ds : List D} (r : RvL K P w π H vs ds) : vs = [] ↔ ds = [] := by
  cases r with
  | nil => simp
  | cons _ _ => simp
theorem os_add : OpSnd X (binaryOp .Add) opAdd := fun {π N H x y dx dy Q} hn rx ry h => by
  unfold opAdd at h
  split at h
  · cases rx; cases ry
    exact ⟨_, op_add, _, _, rfl, rfl, h _ _ (Ex.refl hn.pot) (.int _)⟩
  · obtain ⟨hs, h⟩ := cond_all h
    obtain ⟨a, vs, rfl, ha, ra⟩ := rx.tupE
    obtain ⟨b, us, rfl, hb, rb⟩ := ry.tupE
    have hz : vs.length + us.length ≤ sizeLine := by
      have := small_ok (ra.append rb) hs
      rw [List.length_append] at this
      exact this
    refine ⟨_, op_catA, a, b, vs, us, rfl, rfl, ha, hb, hz, fun e => ?_, fun ne e => ?_, fun ne ne2 p hp => ?_⟩
    · have e' := ra.nil_of.mp e
      refine h _ _ (Ex.refl hn.pot) ?_
      rw [e', List.nil_append]
      exact ry
    · have e' := rb.nil_of.mp e
      refine h _ _ (Ex.refl hn.pot) ?_
      rw [e', List.append_nil]
      exact rx
    · exact Kd.new h hn (ra.append rb) hp
  · obtain ⟨hs, h⟩ := cond_all h
    obtain ⟨a, vs, rfl, ha, _, _, ra⟩ := rx.lstE
    obtain ⟨b, us, rfl, hb, _, _, rb⟩ := ry.lstE
    have hz : vs.length + us.length ≤ sizeLine := by
      have := small_ok (ra.append rb) hs
      rw [List.length_append] at this
      exact this
    exact ⟨_, op_cat, a, b, vs, us, rfl, rfl, ha, hb, hz, fun p hp => Kd.newL h hn (ra.append rb) hp⟩
  · obtain ⟨hs, h⟩ := cond_all h
    cases rx; cases ry
    exact ⟨_, op_add_str, _, _, rfl, rfl, Nat.le_trans (of_decide_eq_true hs) (by decide), h _ _ (Ex.refl hn.pot) (.str _)⟩
  · exact False.elim h
theorem os_sub : OpSnd X (binaryOp .Sub) opSub := fun {π N H x y dx dy Q} hn rx ry h => by
  unfold opSub at h
  split at h
  · cases rx; cases ry
    exact ⟨_, op_sub, _, _, rfl, rfl, h _ _ (Ex.refl hn.pot) (.int _)⟩
  · exact False.elim h
theorem rep_rv {K : PySem.W.Frag} {P : Program} {w : World} {π : Addr} {H : Hp} {vs : List V} {ds : List D} (r : RvL K P w π H vs ds) : ∀ k : Nat, RvL K P w π H (List.replicate k vs).flatten (rep k ds)
  | 0 => .nil
  | k + 1 => by
    show RvL K P w π H (List.replicate (k + 1) vs).flatten (ds ++ rep k ds)
    rw [List.replicate_succ, List.flatten_cons]
    exact r.append (rep_rv r k)
theorem os_mul : OpSnd X (binaryOp .Mult) opMul := fun {π N H x y dx dy Q} hn rx ry h => by
  unfold opMul at h
  split at h
  · cases rx; cases ry
    obtain ⟨hs, h⟩ := cond_all h
    refine ⟨_, op_mul, _, _, rfl, rfl, ?_, h _ _ (Ex.refl hn.pot) (.int _)⟩
    unfold lim64 at hs
    simp only [Bool.or_eq_true, Bool.and_eq_true, decide_eq_true_eq] at hs
    exact hs
  · obtain ⟨hs, h⟩ := cond_all h
    obtain ⟨a, vs, rfl, ha, ra⟩ := rx.tupE
    cases ry
    simp only [Bool.and_eq_true, decide_eq_true_eq, Bool.not_eq_true'] at hs
    obtain ⟨⟨⟨h1, h2⟩, h3⟩, h4⟩ := hs
    refine ⟨_, op_repT, a, _, vs, rfl, rfl, ha, fun e => ?_, h1, h2, by rw [ra.length]; omega, fun p hp => Kd.new h hn (rep_rv ra _) hp⟩
    rw [ra.nil_of.mp e] at h4
    cases h4
  · exact False.elim h
theorem os_fdiv : OpSnd X (binaryOp .FloorDiv) opFDiv := fun {π N H x y dx dy Q} hn rx ry h => by
  unfold opFDiv at h
  split at h
  · cases rx; cases ry
    obtain ⟨hs, h⟩ := cond_all h
    simp only [Bool.and_eq_true, decide_eq_true_eq] at hs
    exact ⟨_, op_fdiv, _, _, rfl, rfl, hs, h _ _ (Ex.refl hn.pot) (.int _)⟩
  · exact False.elim h
theorem os_mod : OpSnd X (binaryOp .Mod) opMod := fun {π N H x y dx dy Q} hn rx ry h => by
  unfold opMod at h
  split at h
  · cases rx; cases ry
    obtain ⟨hs, h⟩ := cond_all h
    simp only [decide_eq_true_eq] at hs
    exact ⟨_, op_mod, _, _, rfl, rfl, hs, h _ _ (Ex.refl hn.pot) (.int _)⟩
  · exact False.elim h
theorem os_pow : OpSnd X (binaryOp .Pow) opPow := fun {π N H x y dx dy Q} hn rx ry h => by
  unfold opPow at h
  split at h
  · cases rx; cases ry
    obtain ⟨hs, h⟩ := cond_all h
    simp only [Bool.and_eq_true, decide_eq_true_eq] at hs
    exact ⟨_, op_pow, _, _, rfl, rfl, ⟨hs.1.1, by omega, hs.2⟩, h _ _ (Ex.refl hn.pot) (.int _)⟩
  · exact False.elim h
theorem os_I {g : Value → Value → Sem Value} {f : Int → Int → Bool} (hr : OpR X g (rI0 fun i j => .bl (f i j))) : OpSnd X g (opI f) := fun {π N H x y dx dy Q} hn rx ry h => by
  unfold opI at h
  split at h
  · cases rx; cases ry
    exact ⟨_, hr, _, _, rfl, rfl, h _ _ (Ex.refl hn.pot) (.bl _)⟩
  · exact False.elim h
theorem os_lt : OpSnd X (compareOp .Lt) opLt := os_I op_lt
theorem os_le : OpSnd X (compareOp .LtE) opLe := os_I op_le
theorem os_gt : OpSnd X (compareOp .Gt) opGt := os_I op_gt
theorem os_ge : OpSnd X (compareOp .GtE) opGe := os_I op_ge
theorem os_eq (hu : X.A.units + 64 < cLine) : OpSnd X (compareOp .Eq) opEq := fun {π N H x y dx dy Q} hn rx ry h => by
  unfold opEq at h
  split at h
  · rename_i b e
    obtain ⟨p, q, hp, hq, sp, sq, rfl⟩ := eqD_some e
    exact ⟨_, op_eqD hu, p, q, rx.dp hp, ry.dp hq, sp, sq, h _ _ (Ex.refl hn.pot) (.bl _)⟩
  · exact False.elim h
theorem os_ne (hu : X.A.units + 64 < cLine) : OpSnd X (compareOp .NotEq) opNe := fun {π N H x y dx dy Q} hn rx ry h => by
  unfold opNe at h
  split at h
  · rename_i b e
    obtain ⟨p, q, hp, hq, sp, sq, rfl⟩ := eqD_some e
    exact ⟨_, op_neD hu, p, q, rx.dp hp, ry.dp hq, sp, sq, h _ _ (Ex.refl hn.pot) (.bl _)⟩
  · exact False.elim h

/-! ### built-ins by values -/
def bLen : List D → T D
  | [.tup ds] => .ret (.int ds.length)
  | [.lst ds] => .ret (.int ds.length)
  | _ => .fail
theorem cs_len : CaSnd X (.builtin "len") bLen := fun {π N H xs ds Q} hn r h => by
  unfold bLen at h
  split at h
  · cases r with
    | cons r t =>
      cases t
      obtain ⟨a, vs, rfl, ha, ra⟩ := r.tupE
      exact ⟨_, call_len_seq, a, vs, rfl, .inr ha, by rw [ra.length]; exact h _ _ (Ex.refl hn.pot) (.int _)⟩
  · cases r with
    | cons r t =>
      cases t
      obtain ⟨a, vs, rfl, ha, _, _, ra⟩ := r.lstE
      exact ⟨_, call_len_seq, a, vs, rfl, .inl (.inl (.inl ha)), by rw [ra.length]; exact h _ _ (Ex.refl hn.pot) (.int _)⟩
  · exact False.elim h
def bInt : List D → T D
  | [.int i] => .ret (.int i)
  | _ => .fail
theorem cs_int : CaSnd X (.type "int") bInt := fun {π N H xs ds Q} hn r h => by
  unfold bInt at h
  split at h
  · cases r with
    | cons r t =>
      cases t; cases r
      exact ⟨_, call_int1, .inl ⟨_, rfl, h _ _ (Ex.refl hn.pot) (.int _)⟩⟩
  · exact False.elim h
def bAbs : List D → T D
  | [.int i] => .ret (.int (if i < 0 then -i else i))
  | _ => .fail
theorem cs_abs : CaSnd X (.builtin "abs") bAbs := fun {π N H xs ds Q} hn r h => by
  unfold bAbs at h
  split at h
  · cases r with
    | cons r t =>
      cases t; cases r
      exact ⟨_, call_abs, _, rfl, h _ _ (Ex.refl hn.pot) (.int _)⟩
  · exact False.elim h
def bMin2 : List D → T D
  | [.int i, .int j] => .ret (.int (if j < i then j else i))
  | _ => .fail
theorem cs_min2 (hc : X.calm = true) : CaSnd X (.builtin "min") bMin2 := fun {π N H xs ds Q} hn r h => by
  unfold bMin2 at h
  split at h
  · cases r with
    | cons r t =>
      cases t with
      | cons r2 t =>
        cases t; cases r; cases r2
        exact ⟨_, call_min2 hc, _, _, rfl, h _ _ (Ex.refl hn.pot) (.int _)⟩
  · exact False.elim h
def bMax2 : List D → T D
  | [.int i, .int j] => .ret (.int (if j > i then j else i))
  | _ => .fail
theorem cs_max2 (hc : X.calm = true) : CaSnd X (.builtin "max") bMax2 := fun {π N H xs ds Q} hn r h => by
  unfold bMax2 at h
  split at h
  · cases r with
    | cons r t =>
      cases t with
      | cons r2 t =>
        cases t; cases r; cases r2
        exact ⟨_, call_max2 hc, _, _, rfl, h _ _ (Ex.refl hn.pot) (.int _)⟩
  · exact False.elim h
def bTuple : List D → T D
  | [.tup ds] => .ret (.tup ds)
  | [.lst ds] => .ret (.tup ds)
  | _ => .fail
theorem cs_tuple : CaSnd X (.type "tuple") bTuple := fun {π N H xs ds Q} hn r h => by
  unfold bTuple at h
  split at h
  · cases r with
    | cons r t =>
      cases t
      obtain ⟨a, vs, rfl, ha, ra⟩ := id r.tupE
      exact ⟨_, call_tuple_of, a, vs, rfl, .inr ⟨ha, h _ _ (Ex.refl hn.pot) r⟩⟩
  · cases r with
    | cons r t =>
      cases t
      obtain ⟨a, vs, rfl, ha, _, _, ra⟩ := id r.lstE
      exact ⟨_, call_tuple_of, a, vs, rfl, .inl ⟨.inl (.inl ha), fun l hl => Kd.new h hn ra hl⟩⟩
  · exact False.elim h
def bList : List D → T (List D)
  | [.tup ds] => .ret ds
  | [.lst ds] => .ret ds
  | _ => .fail
theorem cs_list : CaSndL X (.type "list") bList := fun {π N H xs ds Q} hn r h => by
  unfold bList at h
  split at h
  · cases r with
    | cons r t =>
      cases t
      obtain ⟨a, vs, rfl, ha, ra⟩ := id r.tupE
      exact ⟨_, call_list_of, a, vs, rfl, .inr ha, fun l hl => Kl.new h hn ra hl⟩
  · cases r with
    | cons r t =>
      cases t
      obtain ⟨a, vs, rfl, ha, _, _, ra⟩ := id r.lstE
      exact ⟨_, call_list_of, a, vs, rfl, .inl (.inl (.inl ha)), fun l hl => Kl.new h hn ra hl⟩
  · exact False.elim h
/-- the bools of a list -/
def bools : List D → Option (List Bool)
  | [] => some []
  | .bl b :: ds => match bools ds with
    | some bs => some (b :: bs)
    | none => none
  | _ => none
theorem bools_rv {K : PySem.W.Frag} {P : Program} {w : World} {π : Addr} {H : Hp} : ∀ {ds : List D} {vs : List V} {bs : List Bool}, RvL K P w π H vs ds → bools ds = some bs → vs = bs.map V.bl
  | _, _, bs, .nil, h => by cases h; rfl
  | .bl b :: ds, _, bs, .cons r t, h => by
    unfold bools at h
    cases q : bools ds with
    | none => rw [q] at h; cases h
    | some cs => rw [q] at h; cases h; rw [bools_rv t q, r.bool]; rfl
  | .int _ :: _, _, _, .cons _ _, h => by cases h
  | .non :: _, _, _, .cons _ _, h => by cases h
  | .str _ :: _, _, _, .cons _ _, h => by cases h
  | .tup _ :: _, _, _, .cons _ _, h => by cases h
  | .lst _ :: _, _, _, .cons _ _, h => by cases h
  | .dic _ :: _, _, _, .cons _ _, h => by cases h
  | .pot :: _, _, _, .cons _ _, h => by cases h
def bAll : List D → T D
  | [.lst ds] => match bools ds with
    | some bs => .ret (.bl (bs.all id))
    | none => .fail
  | _ => .fail
theorem cs_all (hc : X.calm = true) : CaSnd X (.builtin "all") bAll := fun {π N H xs ds Q} hn r h => by
  unfold bAll at h
  split at h
  · cases r with
    | cons r t =>
      cases t
      split at h
      · rename_i bs e
        obtain ⟨a, vs, rfl, ha, _, _, ra⟩ := id r.lstE
        exact ⟨_, cr_all hc, a, bs, rfl, by rw [← bools_rv ra e]; exact .inl (.inl ha), h _ _ (Ex.refl hn.pot) (.bl _)⟩
      · exact False.elim h
  · exact False.elim h
def intsOf : List D → Option (List Int)
  | [] => some []
  | .int b :: ds => match intsOf ds with
    | some bs => some (b :: bs)
    | none => none
  | _ => none
theorem ints_rv {K : PySem.W.Frag} {P : Program} {w : World} {π : Addr} {H : Hp} : ∀ {ds : List D} {vs : List V} {bs : List Int}, RvL K P w π H vs ds → intsOf ds = some bs → vs = bs.map V.int
  | _, _, bs, .nil, h => by cases h; rfl
  | .int b :: ds, _, bs, .cons r t, h => by
    unfold intsOf at h
    cases q : intsOf ds with
    | none => rw [q] at h; cases h
    | some cs => rw [q] at h; cases h; rw [ints_rv t q, r.intE]; rfl
  | .bl _ :: _, _, _, .cons _ _, h => by cases h
  | .non :: _, _, _, .cons _ _, h => by cases h
  | .str _ :: _, _, _, .cons _ _, h => by cases h
  | .tup _ :: _, _, _, .cons _ _, h => by cases h
  | .lst _ :: _, _, _, .cons _ _, h => by cases h
  | .dic _ :: _, _, _, .cons _ _, h => by cases h
  | .pot :: _, _, _, .cons _ _, h => by cases h
def sumI : List Int → Int
  | [] => 0
  | i :: is => i + sumI is
theorem sumI_eq : ∀ l : List Int, sumI l = l.sum
  | [] => rfl
  | i :: is => by rw [List.sum_cons, ← sumI_eq is]; rfl
def bSum : List D → T D
  | [.lst ds] => match intsOf ds with
    | some bs => .ret (.int (sumI bs))
    | none => .fail
  | _ => .fail
theorem cs_sum (hc : X.calm = true) : CaSnd X (.builtin "sum") bSum := fun {π N H xs ds Q} hn r h => by
  unfold bSum at h
  split at h
  · cases r with
    | cons r t =>
      cases t
      split at h
      · rename_i bs e
        obtain ⟨a, vs, rfl, ha, _, _, ra⟩ := id r.lstE
        exact ⟨_, cr_sum hc, a, bs, rfl, by rw [← ints_rv ra e]; exact .inl (.inl ha), by rw [← sumI_eq]; exact h _ _ (Ex.refl hn.pot) (.int _)⟩
      · exact False.elim h
  · exact False.elim h

/-! ### places, slices -/
def ixL (ds : List D) (d : D) : T D := match d with
  | .int i => match atI ds i with
    | some d => .ret d
    | none => .fail
  | _ => .fail
def ixD (x d : D) : T D := match x with
  | .tup ds => ixL ds d
  | .lst ds => ixL ds d
  | _ => .fail
theorem ixL_all {P : D → Prop} {ds : List D} {d : D} (h : (ixL ds d).all P) : ∃ i z, d = .int i ∧ atI ds i = some z ∧ P z := by
  cases d with
  | int i =>
    unfold ixL at h
    simp only [] at h
    cases c : atI ds i with
    | none => rw [c] at h; exact False.elim h
    | some z => rw [c] at h; exact ⟨i, z, rfl, c, h⟩
  | _ => exact False.elim h
theorem atI_rv {K : PySem.W.Frag} {P : Program} {w : World} {π : Addr} {H : Hp} {ds : List D} {vs : List V} {i : Int} {d : D} (r : RvL K P w π H vs ds) (h : atI ds i = some d) : ∃ v, atI vs i = some v ∧ Rv K P w π H v d := by
  unfold atI at h ⊢
  rw [r.length]
  obtain ⟨j, hj, h⟩ := Option.bind_eq_some_iff.mp h
  obtain ⟨v, hv, rv⟩ := r.get h
  exact ⟨v, Option.bind_eq_some_iff.mpr ⟨j, hj, hv⟩, rv⟩
variable {a b e : Expr} {ma mb : Rho → T D} {pos : Pos}
def wpIx (X : Cx) : R2 := fun x y H Q => ∃ r, IxR X r ∧ r x y H Q
theorem ix_wp : IxR X (wpIx X) := fun value slice pins s σ H x y v u Q I rx ry ⟨_, h, q⟩ hs => h value slice pins s σ H x y v u Q I rx ry q hs
theorem s_ix (ha : Snd X a ma) (hb : Snd X b mb) (hs : PlainIx b) : Snd X (.Subscript a b pos) (eBin ixD ma mb) := fun {π N0 H0 N H σ ρ Q} I h => ⟨_, pe_ix ix_wp pe_wp pe_wp hs, by
  refine ha I (T.all_mono (fun dx hx => ?_) (T.all_bind.mp h))
  intro v H1 e1 r1
  refine hb (I.ext e1) (T.all_mono (fun dy hy => ?_) (T.all_bind.mp hx))
  intro u H2 e2 r2
  have hn := I.hn.ext (e1.trans e2)
  have r1 := r1.mono e2.kp.hide
  cases dx with
  | tup ds =>
    obtain ⟨i, z, rfl, ez, hy⟩ := ixL_all hy
    cases r2
    obtain ⟨a, vs, rfl, ha, ra⟩ := r1.tupE
    obtain ⟨z', hz, rz⟩ := atI_rv ra ez
    exact ⟨_, ix_tup, a, vs, _, z', rfl, rfl, ha, hz, hy _ _ (e1.trans e2) rz⟩
  | lst ds =>
    obtain ⟨i, z, rfl, ez, hy⟩ := ixL_all hy
    cases r2
    obtain ⟨a, vs, rfl, ha, _, _, ra⟩ := r1.lstE
    obtain ⟨z', hz, rz⟩ := atI_rv ra ez
    exact ⟨_, ix_list, a, vs, _, z', rfl, rfl, .inl (.inl ha), hz, hy _ _ (e1.trans e2) rz⟩
  | _ => exact False.elim hy⟩
/-- an own list's item -/
def ixOwn (i : Nat) (mb : Rho → T D) : Rho → T D := fun ρ => match ρ[i]? with
  | some (.own ds) => (mb ρ).bind fun y => ixL ds y
  | _ => .fail
theorem s_ixOwn (i : Nat) {x : Str} {p : Pos} (hb : Snd X b mb) (hs : PlainIx b) (hN : X.N[i]? = some x := by rfl) (hv : Vis X.env.scope x := by first | exact Or.inl rfl | exact Or.inr (Or.inl rfl) | exact Or.inr (Or.inr rfl)) (hd : (x == ("__debug__" : Str)) = false := by decide)
    (hcd : (x == ("__classdict__" : Str)) = false := by decide) : Snd X (.Subscript (.Name x p) b pos) (ixOwn i mb) := fun {π N0 H0 N H σ ρ Q} I h => by
  unfold ixOwn at h
  split at h
  · rename_i ds c
    obtain ⟨l, vs, hs1, nl, n0, hl, rl⟩ := I.lst i ds c
    refine ⟨_, pe_ix ix_list (pe_var hN hv hd hcd) pe_wp hs, .ref l, hs1, ?_⟩
    refine hb I (T.all_mono (fun dy hy => ?_) (T.all_bind.mp h))
    intro u H2 e2 r2
    obtain ⟨i, z, rfl, ez, hy⟩ := ixL_all hy
    cases r2
    obtain ⟨z', hz, rz⟩ := atI_rv (rl.mono e2.kp.hide) ez
    exact ⟨l, vs, _, z', rfl, rfl, .inl (.inl (e2.kp l _ (N_ne I.hn nl) hl)), hz, hy _ _ e2 rz⟩
  · exact False.elim h
/-- len of an own list -/
def lenOwn (i : Nat) : Rho → T D := fun ρ => match ρ[i]? with
  | some (.own ds) => .ret (.int ds.length)
  | _ => .fail
theorem s_lenOwn (i : Nat) {x : Str} {p p2 : Pos} (hm : X.mg "len" = none) (hg : Gl X "len" := by rfl) (hN : X.N[i]? = some x := by rfl) (hv : Vis X.env.scope x := by first | exact Or.inl rfl | exact Or.inr (Or.inl rfl) | exact Or.inr (Or.inr rfl)) (hd : (x == ("__debug__" : Str)) = false := by decide)
    (hcd : (x == ("__classdict__" : Str)) = false := by decide) (he : starEach [.Name x p] X.env = (false, eval (.Name x p) X.env) :: starEach [] X.env := by rfl) (hpl : (backTo pos (starEach [] X.env)).any (·.1) = false := by rfl) : Snd X (.Call (.Name "len" p2) [.Name x p] [] pos) (lenOwn i) := fun {π N0 H0 N H σ ρ Q} I h => by
  unfold lenOwn at h
  split at h
  · rename_i ds c
    obtain ⟨l, vs, hs1, nl, n0, hl, rl⟩ := I.lst i ds c
    refine ⟨_, pe_callB call_len_seq hg hm PySem.boot_len (pa_cons (pe_var hN hv hd hcd) pa_nil he) (by decide) (by decide) he hpl, .ref l, hs1, l, vs, rfl, .inl (.inl (.inl hl)), ?_⟩
    rw [rl.length]
    exact h _ _ (Ex.refl I.hn.pot) (.int _)
  · exact False.elim h
/-! slices -/
def oNo : Rho → T (Option Int) := fun _ => .ret none
def oPart (m : Rho → T D) : Rho → T (Option Int) := fun ρ => (m ρ).bind fun d => match d with
  | .int i => .ret (some i)
  | _ => .fail
def SndO (X : Cx) (e : Option Expr) (m : Rho → T (Option Int)) : Prop := ∀ ⦃π : Addr⦄ ⦃N0 : Addr → Bool⦄ ⦃H0 : Hp⦄ ⦃N : Addr → Bool⦄ ⦃H : Hp⦄ ⦃σ : L2.St⦄ ⦃ρ : Rho⦄ ⦃Q : Option Int → Hp → Prop⦄, EnvOk X.K X.prog X.w π N0 H0 N H σ ρ → (m ρ).all (fun b => ∀ H2, Ex π H H2 → Q b H2) → ∃ t, PO X e t ∧ t σ H Q
theorem so_no : SndO X none oNo := fun {_ _ _ _ _ _ _ _} I h => ⟨_, po_none, h _ (Ex.refl I.hn.pot)⟩
theorem so_some (ha : Snd X a ma) : SndO X (some a) (oPart ma) := fun {_ _ _ _ _ _ _ _} I h => ⟨_, po_some pe_wp, ha I (T.all_mono (fun d hd v H2 e r => by
  cases d <;> first | exact False.elim hd | (cases r; exact ⟨_, rfl, hd _ e⟩)) (T.all_bind.mp h))⟩
def wpO (X : Cx) (e : Option Expr) : TO := fun σ H Q => ∃ t, PO X e t ∧ t σ H Q
theorem po_wp {e : Option Expr} : PO X e (wpO X e) := ⟨fun pins s σ H Q I ⟨_, h, q⟩ => h.run pins s σ H Q I q⟩
def cutD (xs : List D) (lo hi : Option Int) : List D := (xs.drop (HT.sIx xs.length 0 lo)).take (HT.sIx xs.length xs.length hi - HT.sIx xs.length 0 lo)
def slD (d : D) (lo hi : Option Int) : T D := match d with
  | .tup ds => .ret (.tup (cutD ds lo hi))
  | .lst ds => .ret (.lst (cutD ds lo hi))
  | _ => .fail
def eSl (m : Rho → T D) (ml mh : Rho → T (Option Int)) : Rho → T D := fun ρ => (m ρ).bind fun d => (ml ρ).bind fun l => (mh ρ).bind fun u => slD d l u
theorem cut_rv {K : PySem.W.Frag} {P : Program} {w : World} {π : Addr} {H : Hp} {ds : List D} {vs : List V} {lo hi : Option Int} (r : RvL K P w π H vs ds) : RvL K P w π H (cutV vs lo hi) (cutD ds lo hi) := by
  unfold cutV cutD
  rw [r.length]
  exact (r.drop _).take _
theorem sIx_le : ∀ (n d : Nat) (o : Option Int), d ≤ n → HT.sIx n d o ≤ n := fun n d o h => by
  cases o with
  | none => exact h
  | some i => unfold HT.sIx; simp only []; split <;> (try split) <;> omega
theorem cut_whole {xs : List D} {lo hi : Option Int} (h : HT.sIx xs.length 0 lo = 0 ∧ HT.sIx xs.length xs.length hi = xs.length) : cutD xs lo hi = xs := by
  unfold cutD
  rw [h.1, h.2, List.drop_zero, Nat.sub_zero, List.take_length]
def wpSl (X : Cx) : V → Option Int → Option Int → Hp → VK → Prop := fun x l u H Q => ∃ r, SlR X r ∧ r x l u H Q
theorem sl_wp : SlR X (wpSl X) := fun pins s σ H x v vl vu lo hi sl Q I rx hs pl pu ⟨_, h, q⟩ => h pins s σ H x v vl vu lo hi sl Q I rx hs pl pu q
theorem s_sl {lo hi : Option Expr} {ml mh : Rho → T (Option Int)} {p2 : Pos} (ha : Snd X a ma) (hl : SndO X lo ml) (hh : SndO X hi mh) : Snd X (.Subscript a (.Slice lo hi none p2) pos) (eSl ma ml mh) := fun {π N0 H0 N H σ ρ Q} I h => ⟨_, pe_slice sl_wp pe_wp po_wp po_wp, by
  refine ha I (T.all_mono (fun dx hx => ?_) (T.all_bind.mp h))
  intro v H1 e1 r1
  refine hl (I.ext e1) (T.all_mono (fun l hl => ?_) (T.all_bind.mp hx))
  intro H2 e2
  refine hh (I.ext (e1.trans e2)) (T.all_mono (fun u hu => ?_) (T.all_bind.mp hl))
  intro H3 e3
  have e := (e1.trans e2).trans e3
  have hn := I.hn.ext e
  have r1 := r1.mono (e2.trans e3).kp.hide
  unfold slD at hu
  split at hu
  · obtain ⟨a, vs, rfl, ha, ra⟩ := id r1.tupE
    refine ⟨_, sl_tupA, a, vs, rfl, ha, fun w => ?_, fun w p hp => Kd.new (hu.up e) hn (cut_rv ra) hp⟩
    rw [ra.length] at w
    refine hu _ _ e ?_
    rw [cut_whole w]
    exact r1
  · obtain ⟨a, vs, rfl, ha, _, _, ra⟩ := id r1.lstE
    exact ⟨_, sl_list, a, vs, rfl, .inl (.inl ha), fun p hp => Kd.newL (hu.up e) hn (cut_rv ra) hp⟩
  · exact False.elim hu⟩
end
end Pd

namespace Pd
open PySem L2

inductive Out where
  | nx (ρ : Rho) | rt (d : D) | bk (ρ : Rho) | ct (ρ : Rho)
section
variable (X : Cx)
def OutOk (π : Addr) (N0 : Addr → Bool) (H0 : Hp) (De : Ends) : Out → Prop
  | .nx ρ => ∀ N H σ, EnvOk X.K X.prog X.w π N0 H0 N H σ ρ → De.nx σ H
  | .bk ρ => ∀ N H σ, EnvOk X.K X.prog X.w π N0 H0 N H σ ρ → De.bk σ H
  | .ct ρ => ∀ N H σ, EnvOk X.K X.prog X.w π N0 H0 N H σ ρ → De.ct σ H
  | .rt d => ∀ v H, Ex π H0 H → Rv X.K X.prog X.w π (Hide N0 H) v d → De.rt v H
def SndS (st : Stmt) (m : Rho → T Out) : Prop := ∀ ⦃π : Addr⦄ ⦃N0 : Addr → Bool⦄ ⦃H0 : Hp⦄ ⦃N : Addr → Bool⦄ ⦃H : Hp⦄ ⦃σ : L2.St⦄ ⦃ρ : Rho⦄ ⦃De : Ends⦄, EnvOk X.K X.prog X.w π N0 H0 N H σ ρ → (m ρ).all (OutOk X π N0 H0 De) → wpS X st De σ H
def SndB (sts : List Stmt) (m : Rho → T Out) : Prop := ∀ ⦃π : Addr⦄ ⦃N0 : Addr → Bool⦄ ⦃H0 : Hp⦄ ⦃N : Addr → Bool⦄ ⦃H : Hp⦄ ⦃σ : L2.St⦄ ⦃ρ : Rho⦄ ⦃De : Ends⦄, EnvOk X.K X.prog X.w π N0 H0 N H σ ρ → (m ρ).all (OutOk X π N0 H0 De) → wpSs X sts De σ H
def SndG (tg : Expr) (g : D → Rho → T Rho) : Prop := ∀ ⦃π : Addr⦄ ⦃N0 : Addr → Bool⦄ ⦃H0 : Hp⦄ ⦃N : Addr → Bool⦄ ⦃H : Hp⦄ ⦃σ : L2.St⦄ ⦃ρ : Rho⦄ ⦃v : V⦄ ⦃d : D⦄ ⦃Q : L2.St → Hp → Prop⦄, EnvOk X.K X.prog X.w π N0 H0 N H σ ρ → Rv X.K X.prog X.w π (Hide N H) v d →
  (g d ρ).all (fun ρ' => ∀ σ', EnvOk X.K X.prog X.w π N0 H0 N H σ' ρ' → Q σ' H) → wpG X tg v σ H Q
def SndGs (tgs : List Expr) (g : List D → Rho → T Rho) : Prop := ∀ ⦃π : Addr⦄ ⦃N0 : Addr → Bool⦄ ⦃H0 : Hp⦄ ⦃N : Addr → Bool⦄ ⦃H : Hp⦄ ⦃σ : L2.St⦄ ⦃ρ : Rho⦄ ⦃vs : List V⦄ ⦃ds : List D⦄ ⦃Q : L2.St → Hp → Prop⦄, EnvOk X.K X.prog X.w π N0 H0 N H σ ρ → RvL X.K X.prog X.w π (Hide N H) vs ds →
  (g ds ρ).all (fun ρ' => ∀ σ', EnvOk X.K X.prog X.w π N0 H0 N H σ' ρ' → Q σ' H) → ∃ t, PGs X tgs t ∧ t vs σ H Q
/-- J walks the data ds, wherever what was seen stands -/
def Walk (π : Addr) (B : Hp) (J : It) (ds : List D) : Prop := ∀ (N : Addr → Bool) (H : Hp) (i : Nat), HN π N H → Kp π B (Hide N H) →
  (∀ d, ds[i]? = some d → J.go i H ∧ ∀ x H', J.yld i H x H' → Ex π H H' ∧ Rv X.K X.prog X.w π (Hide N H') x d) ∧ (i = ds.length → J.stop i H)
def SndI (tg it : Expr) (m : Rho → T (List D)) : Prop := ∀ ⦃π : Addr⦄ ⦃N0 : Addr → Bool⦄ ⦃H0 : Hp⦄ ⦃N : Addr → Bool⦄ ⦃H : Hp⦄ ⦃σ : L2.St⦄ ⦃ρ : Rho⦄ ⦃R : It → Hp → Prop⦄, EnvOk X.K X.prog X.w π N0 H0 N H σ ρ →
  (m ρ).all (fun ds => ∀ J H2, Ex π H H2 → Walk X π (Hide N H2) J ds → R J H2) → wpI X tg it σ H R
end

def bNil : Rho → T Out := fun ρ => .ret (.nx ρ)
def bSeq (m1 m2 : Rho → T Out) : Rho → T Out := fun ρ => (m1 ρ).bind fun o => match o with
  | .nx ρ' => m2 ρ'
  | .rt d => .ret (.rt d)
  | .bk ρ' => .ret (.bk ρ')
  | .ct ρ' => .ret (.ct ρ')
def bFreeze (i : Nat) (m : Rho → T Out) : Rho → T Out := fun ρ => match ρ[i]? with
  | some (.own ds) => m (ρ.set i (.val (.lst ds)))
  | _ => m ρ
def bFreezeD (i : Nat) (m : Rho → T Out) : Rho → T Out := fun ρ => match ρ[i]? with
  | some (.ownD kvs) => m (ρ.set i (.val (.dic kvs)))
  | _ => m ρ
def sSet (i : Nat) (m : Rho → T D) : Rho → T Out := fun ρ => (m ρ).bind fun d => .ret (.nx (ρ.set i (.val d)))
def sOwn (i : Nat) (m : Rho → T (List D)) : Rho → T Out := fun ρ => (m ρ).bind fun ds => .ret (.nx (ρ.set i (.own ds)))
def sRet (m : Rho → T D) : Rho → T Out := fun ρ => (m ρ).bind fun d => .ret (.rt d)
def sExpr (m : Rho → T D) : Rho → T Out := fun ρ => (m ρ).bind fun _ => .ret (.nx ρ)
def sIf (mt : Rho → T Bool) (m1 m2 : Rho → T Out) : Rho → T Out := fun ρ => (mt ρ).bind fun b => cond b (m1 ρ) (m2 ρ)
def sFail : Rho → T Out := fun _ => .fail
def sApp (i : Nat) (m : Rho → T D) : Rho → T Out := fun ρ => match ρ[i]? with
  | some (.own ds) => (m ρ).bind fun d => cond (small ds) (.ret (.nx (ρ.set i (.own (ds ++ [d]))))) .fail
  | _ => .fail
def sAsg (g : D → Rho → T Rho) (m : Rho → T D) : Rho → T Out := fun ρ => (m ρ).bind fun d => (g d ρ).bind fun ρ' => .ret (.nx ρ')
def gNm (i : Nat) : D → Rho → T Rho := fun d ρ => .ret (ρ.set i (.val d))
def gsNil : List D → Rho → T Rho := fun ds ρ => match ds with
  | [] => .ret ρ
  | _ => .fail
def gsCons (g : D → Rho → T Rho) (gs : List D → Rho → T Rho) : List D → Rho → T Rho := fun ds ρ => match ds with
  | d :: ds => (g d ρ).bind fun ρ' => gs ds ρ'
  | [] => .fail
def gTp (n : Nat) (gs : List D → Rho → T Rho) : D → Rho → T Rho := fun d ρ => match d with
  | .tup ds => cond (ds.length == n) (gs ds ρ) .fail
  | _ => .fail
def forT (body : D → Rho → T Out) : List D → Rho → T Out
  | [], ρ => .ret (.nx ρ)
  | d :: ds, ρ => (body d ρ).bind fun o => match o with
    | .nx ρ' => forT body ds ρ'
    | .ct ρ' => forT body ds ρ'
    | .bk ρ' => .ret (.nx ρ')
    | .rt r => .ret (.rt r)
def sFor (mi : Rho → T (List D)) (g : D → Rho → T Rho) (body : Rho → T Out) : Rho → T Out := fun ρ => (mi ρ).bind fun ds => forT (fun d ρ => (g d ρ).bind body) ds ρ
def whT (mt : Rho → T Bool) (body : Rho → T Out) : Nat → Rho → T Out
  | 0, _ => .fail
  | f + 1, ρ => (mt ρ).bind fun b => cond b ((body ρ).bind fun o => match o with
    | .nx ρ' => whT mt body f ρ'
    | .ct ρ' => whT mt body f ρ'
    | .bk ρ' => .ret (.nx ρ')
    | .rt r => .ret (.rt r)) (.ret (.nx ρ))

section
variable {X : Cx} {st : Stmt} {sts rest : List Stmt} {a b c e : Expr} {ma mb m : Rho → T D} {mt : Rho → T Bool} {m1 m2 : Rho → T Out} {pos : Pos}
theorem b_nil : SndB X [] bNil := fun {_ _ _ _ _ _ _ _} I h => ⟨_, pss_nil, h _ _ _ I⟩
theorem b_cons (h1 : SndS X st m1) (h2 : SndB X rest m2) : SndB X (st :: rest) (bSeq m1 m2) := fun {π N0 H0 N H σ ρ De} I h =>
  ⟨_, pss_cons ps_wp pss_wp, h1 I (T.all_mono (fun o ho => by
    cases o with
    | nx ρ' => exact fun N' H' σ' I' => h2 I' ho
    | rt d => exact ho
    | bk ρ' => exact ho
    | ct ρ' => exact ho) (T.all_bind.mp h))⟩
theorem b_one (h1 : SndS X st m1) : SndB X [st] m1 := fun {_ _ _ _ _ _ _ _} I h => ⟨_, pss_one ps_wp, h1 I h⟩
theorem b_freeze (i : Nat) (h : SndB X sts m1) : SndB X sts (bFreeze i m1) := fun {π N0 H0 N H σ ρ De} I q => by
  unfold bFreeze at q
  split at q
  · obtain ⟨N', I'⟩ := I.freeze (by assumption)
    exact h I' q
  · exact h I q
theorem b_freezeD (i : Nat) (h : SndB X sts m1) : SndB X sts (bFreezeD i m1) := fun {π N0 H0 N H σ ρ De} I q => by
  unfold bFreezeD at q
  split at q
  · obtain ⟨l, xs, N', hl, I'⟩ := I.freezeD (by assumption)
    refine ⟨fun De σ H => ∃ l u, H l = some u ∧ Mut (some u) ∧ ∀ od, wpSs X sts De σ (upd H l (.frz od u)), ⟨fun pins s σ H De J z => ?_⟩, l, _, hl, True.intro, fun od => h (I' od) q⟩
    obtain ⟨l, u, hl, mu, z⟩ := z
    obtain ⟨od, J1⟩ := J.lock hl mu
    exact pss_wp.run pins s σ _ De J1 (z od)
  · exact h I q
theorem ss_set {i : Nat} {x : Str} {pos' : Pos} (hN : X.N.Nodup) (he : Snd X e m) (hi : X.N[i]? = some x := by rfl) (hx : Loc X.env.scope x := by first | exact .inl rfl | exact .inr rfl) (hs : swapsWith e (some (.Name x pos')) pos.line X.env = pure false := by rfl) (hf : X.fn x = true ∨ X.env.scope.names.lookup x = some .local := by first | exact .inl rfl | exact .inr rfl) :
    SndS X (.Assign [.Name x pos'] e pos) (sSet i m) := fun {π N0 H0 N H σ ρ De} I h => ⟨_, ps_set hN hi hx pe_wp hs hf, he I (T.all_mono (fun d hd => by intro v H2 e2 r; exact hd _ _ _ ((I.ext e2).set r)) (T.all_bind.mp h))⟩
theorem ss_own {i : Nat} {x : Str} {pos' : Pos} {ml : Rho → T (List D)} (hN : X.N.Nodup) (he : SndL X e ml) (hi : X.N[i]? = some x := by rfl) (hx : Loc X.env.scope x := by first | exact .inl rfl | exact .inr rfl) (hs : swapsWith e (some (.Name x pos')) pos.line X.env = pure false := by rfl) (hf : X.fn x = true ∨ X.env.scope.names.lookup x = some .local := by first | exact .inl rfl | exact .inr rfl) :
    SndS X (.Assign [.Name x pos'] e pos) (sOwn i ml) := fun {π N0 H0 N H σ ρ De} I h => ⟨_, ps_set hN hi hx pe_wp hs hf, he I (T.all_mono (fun ds hd => by intro l vs H2 e2 hl h2 r; exact hd _ _ _ (I.newAny e2 hl (by rw [h2]; exact fun z => by cases z) (.inl ⟨vs, ds, rfl, h2, r⟩))) (T.all_bind.mp h))⟩
theorem EnvOk.ret {π : Addr} {N0 N : Addr → Bool} {H0 H H2 : Hp} {σ : L2.St} {ρ : Rho} {v : V} {d : D} (I : EnvOk X.K X.prog X.w π N0 H0 N H σ ρ) (e : Ex π H H2) (r : Rv X.K X.prog X.w π (Hide N H2) v d) : Ex π H0 H2 ∧ Rv X.K X.prog X.w π (Hide N0 H2) v d :=
  ⟨⟨I.ex.trans e.kp, e.pot⟩, r.mono (Kp.less I.sub)⟩
theorem ss_ret (he : Snd X e m) : SndS X (.Return (some e) pos) (sRet m) := fun {π N0 H0 N H σ ρ De} I h => ⟨_, ps_ret pe_wp, he I (T.all_mono (fun d hd => by intro v H2 e2 r; exact hd v H2 (I.ret e2 r).1 (I.ret e2 r).2) (T.all_bind.mp h))⟩
theorem ss_retN : SndS X (.Return none pos) (sRet (eC .non)) := fun {π N0 H0 N H σ ρ De} I h => ⟨_, ps_retN, h .non H (I.ret (Ex.refl I.hn.pot) .non).1 .non⟩
theorem ss_expr (he : Snd X e m) (hs : swapsWith e none pos.line X.env = pure false := by rfl) : SndS X (.Expr e pos) (sExpr m) := fun {π N0 H0 N H σ ρ De} I h => ⟨_, ps_expr pe_wp hs, he I (T.all_mono (fun d hd => by intro v H2 e2 r; exact hd _ _ _ (I.ext e2)) (T.all_bind.mp h))⟩
theorem ss_if {xs ys : List Stmt} (hc : SndT X c mt) (ha : SndB X xs m1) (hb : SndB X ys m2) : SndS X (.If c xs ys pos) (sIf mt m1 m2) := fun {π N0 H0 N H σ ρ De} I h => ⟨_, ps_if pt_wp pss_wp pss_wp, hc I (T.all_mono (fun k hk H2 e2 => by
  cases k with
  | true => exact iteT (ha (I.ext e2) hk)
  | false => exact iteF (hb (I.ext e2) hk)) (T.all_bind.mp h))⟩
theorem ss_fail : SndS X st sFail := fun {_ _ _ _ _ _ _ _} _ h => False.elim h
theorem sb_fail : SndB X sts sFail := fun {_ _ _ _ _ _ _ _} _ h => False.elim h
theorem ss_pass : SndS X (.Pass pos) bNil := fun {_ _ _ _ _ _ _ _} I h => ⟨_, ps_pass, h _ _ _ I⟩
theorem ss_brk : SndS X (.Break pos) (fun ρ => .ret (.bk ρ)) := fun {_ _ _ _ _ _ _ _} I h => ⟨_, ps_break, h _ _ _ I⟩
theorem ss_ct : SndS X (.Continue pos) (fun ρ => .ret (.ct ρ)) := fun {_ _ _ _ _ _ _ _} I h => ⟨_, ps_continue, h _ _ _ I⟩
theorem ss_app {i : Nat} {x : Str} {p apos cpos : Pos} (he : Snd X e m) (hN : X.N[i]? = some x := by rfl) (hv : Vis X.env.scope x := by first | exact Or.inl rfl | exact Or.inr (Or.inl rfl) | exact Or.inr (Or.inr rfl)) (hd : (x == ("__debug__" : Str)) = false := by decide)
    (hcd : (x == ("__classdict__" : Str)) = false := by decide) (hse : starEach [e] X.env = (false, eval e X.env) :: starEach [] X.env := by rfl) (hpl : (backTo cpos (starEach [] X.env)).any (·.1) = false := by rfl)
    (hs : swapsWith (.Call (.Attribute (.Name x p) "append" apos) [e] [] cpos) none pos.line X.env = pure false := by rfl) (hfew : ((((backTo cpos (starEach [e] X.env)).all fun x => !x.fst) && (backToKw cpos (keywordEach [] X.env)).all fun x => x.fst.isSome) && decide (([e].length + ([] : List Keyword).length + if ([] : List Keyword).isEmpty = true then 0 else 1) < 30)) = true := by rfl) (hline : (apos.endLine == cpos.line) = true := by rfl) : SndS X (.Expr (.Call (.Attribute (.Name x p) "append" apos) [e] [] cpos) pos) (sApp i m) := fun {π N0 H0 N H σ ρ De} I h => by
  unfold sApp at h
  split at h
  · rename_i ds c
    obtain ⟨l, vs, hs1, nl, n0, hl, rl⟩ := I.lst i ds c
    refine ⟨_, ps_expr (pe_bm PySem.F.plainAttrs_list PySem.F.slot_list_append PySem.F.type_list_append mt_append (pe_var hN hv hd hcd) (pa_cons pe_wp pa_nil hse) (hfew := hfew) (hline := hline) (hs := hse) (hplain := hpl)) hs, .ref l, hs1, .inl ⟨rfl, _, SqL.of hl⟩, ?_⟩
    refine he I (T.all_mono (fun d hd => ?_) (T.all_bind.mp h))
    intro v H2 e2 r
    obtain ⟨hsm, hd⟩ := cond_all hd
    have hl2 := e2.kp l _ (N_ne I.hn nl) hl
    refine ⟨l, vs, v, rfl, rfl, hl2, ?_, ?_⟩
    · rw [rl.length]
      exact Nat.lt_of_le_of_lt (of_decide_eq_true hsm) (by decide)
    · exact hd _ _ _ ((I.ext e2).upAny c rfl hs1 nl n0 (.inl ⟨vs ++ [v], ds ++ [d], rfl, rfl, (rl.mono e2.kp.hide).append (.cons r .nil)⟩))
  · exact False.elim h
/-! targets -/
theorem g_name {i : Nat} {x : Str} (hN : X.N.Nodup) (hi : X.N[i]? = some x := by rfl) (hx : Loc X.env.scope x := by first | exact .inl rfl | exact .inr rfl) (hf : X.fn x = true ∨ X.env.scope.names.lookup x = some .local := by first | exact .inl rfl | exact .inr rfl | assumption) : SndG X (.Name x pos) (gNm i) := fun {_ _ _ _ _ _ _ _ _ _} I r h => ⟨_, pg_name hN hi hx hf, h _ (I.set r)⟩
theorem gs_nil : SndGs X [] gsNil := fun {π N0 H0 N H σ ρ vs ds Q} I r h => by
  cases r with
  | nil => exact ⟨_, pgs_nil, rfl, h _ I⟩
  | cons _ _ => exact False.elim h
theorem gs_cons {es : List Expr} {g : D → Rho → T Rho} {gs : List D → Rho → T Rho} (h1 : SndG X e g) (h2 : SndGs X es gs) (hs : (assignEach (e :: es) X.env).map (·.2) = assign e X.env :: (assignEach es X.env).map (·.2) := by rfl) : SndGs X (e :: es) (gsCons g gs) := fun {π N0 H0 N H σ ρ vs ds Q} I r h => by
  cases r with
  | nil => exact False.elim h
  | cons r t =>
    refine ⟨_, pgs_cons (u := fun vs σ H Q => ∃ t, PGs X es t ∧ t vs σ H Q) pg_wp ⟨fun pins s σ H vs us Q I r ⟨_, h, q⟩ => h.run pins s σ H vs us Q I r q⟩ hs, _, _, rfl, h1 I r (T.all_mono (fun ρ' hρ σ' I' => h2 I' t hρ) (T.all_bind.mp h))⟩
theorem g_tup {es : List Expr} {k n : Nat} {gs : List D → Rho → T Rho} (hc : X.calm = true) (h : SndGs X es gs) (hn : (assignEach es X.env).length = n := by rfl) (hst : (assignEach es X.env).findIdx? (·.1) = none := by rfl) : SndG X (.Tuple es k pos) (gTp n gs) := fun {π N0 H0 N H σ ρ v d Q} I r q => by
  unfold gTp at q
  split at q
  · obtain ⟨hl, q⟩ := cond_all q
    obtain ⟨a, vs, rfl, ha, ra⟩ := id r.tupE
    exact ⟨_, pg_tup (t := fun vs σ H Q => ∃ t, PGs X es t ∧ t vs σ H Q) hc ⟨fun pins s σ H vs us Q I r ⟨_, h, q⟩ => h.run pins s σ H vs us Q I r q⟩ hn hst, a, vs, rfl, ha, by rw [ra.length]; exact by simpa using hl, h I ra q⟩
  · exact False.elim q
theorem ss_asg {tg : Expr} {g : D → Rho → T Rho} (he : Snd X e m) (hg : SndG X tg g) (hs : swapsWithSole [tg] e pos.line X.env = pure false := by rfl) (hw : swappedStores [tg] e X.env = pure none := by rfl)
    (h1 : (assignEach [tg] X.env).map (·.2) = [assign tg X.env] := by rfl) : SndS X (.Assign [tg] e pos) (sAsg g m) := fun {π N0 H0 N H σ ρ De} I h => ⟨_, ps_asg pe_wp pg_wp hs hw h1, he I (T.all_mono (fun d hd => by intro v H2 e2 r; exact hg (I.ext e2) r (T.all_mono (fun ρ' q => by intro σ' I'; exact q _ _ _ I') (T.all_bind.mp hd))) (T.all_bind.mp h))⟩
/-! loops -/
theorem ss_for {tg it : Expr} {body : List Stmt} {mi : Rho → T (List D)} {g : D → Rho → T Rho} {mbd : Rho → T Out} (hp : PassesOwn (model X.prog X.w) X.A X.env X.xe) (hc : X.calm = true) (hi : SndI X tg it mi) (hg : SndG X tg g) (hb : SndB X body mbd)
    (hs : ∀ x, foldedSetIterable it X.env x = pure x := by intro _; rfl) : SndS X (.For tg it body [] pos) (sFor mi g mbd) := fun {π N0 H0 N H σ ρ De} I h => by
  refine ⟨_, ps_for hp hc pi_wp pg_wp pss_wp hs, hi I (T.all_mono (fun ds hds J H2 e2 wk => ?_) (T.all_bind.mp h))⟩
  have I2 := I.ext e2
  refine ⟨fun i k σ' H' => k = ds.length - i ∧ i ≤ ds.length ∧ ∃ N' ρ', EnvOk X.K X.prog X.w π N0 (baseOf N0 N H2) N' H' σ' ρ' ∧ (forT (fun d ρ => (g d ρ).bind mbd) (ds.drop i) ρ').all (OutOk X π N0 H0 De),
    ⟨ds.length, rfl, Nat.zero_le _, N, ρ, I2.rebase, hds⟩, ?_⟩
  rintro i k σ' H' ⟨rfl, hle, N', ρ', I', hall⟩
  have w := wk N' H' i I'.hn (I2.seen I')
  by_cases hlt : i < ds.length
  · have hget : ds[i]? = some ds[i] := List.getElem?_eq_getElem hlt
    obtain ⟨go, yl⟩ := w.1 _ hget
    rw [List.drop_eq_getElem_cons hlt] at hall
    refine .inr ⟨go, fun σ'' H'' => ∃ N'' ρ'', EnvOk X.K X.prog X.w π N0 (baseOf N0 N H2) N'' H'' σ'' ρ'' ∧ (forT (fun d ρ => (g d ρ).bind mbd) (ds.drop (i + 1)) ρ'').all (OutOk X π N0 H0 De), fun σ'' H'' q => ⟨ds.length - (i + 1), by omega, rfl, hlt, q⟩, fun x H'' y => ?_⟩
    obtain ⟨e3, rx⟩ := yl x H'' y
    refine hg (I'.ext e3) rx (T.all_mono (fun ρ2 h2 σ2 I3 => ?_) (T.all_bind.mp (T.all_bind.mp hall)))
    refine hb I3 (T.all_mono (fun o ho => ?_) h2)
    cases o with
    | nx ρ3 => exact fun N4 H4 σ4 I4 => ⟨N4, ρ3, I4, ho⟩
    | ct ρ3 => exact fun N4 H4 σ4 I4 => ⟨N4, ρ3, I4, ho⟩
    | bk ρ3 => exact fun N4 H4 σ4 I4 => ho N4 H4 σ4 (I2.unbase I4)
    | rt d => exact fun v H4 e4 r4 => ho v H4 ⟨I2.base_kp.trans e4.kp, e4.pot⟩ r4
  · have e : i = ds.length := by omega
    subst e
    rw [List.drop_length] at hall
    exact .inl ⟨w.2 rfl, hall _ _ _ (I2.unbase I')⟩
theorem ss_while {body : List Stmt} {mbd : Rho → T Out} (f : Nat) (hp : PassesOwn (model X.prog X.w) X.A X.env X.xe) (hc : SndT X c mt) (hb : SndB X body mbd) : SndS X (.While c body [] pos) (whT mt mbd f) := fun {π N0 H0 N H σ ρ De} I h => by
  refine ⟨_, ps_while hp pt_wp pss_wp, fun k σ' H' => ∃ N' ρ', EnvOk X.K X.prog X.w π N0 H0 N' H' σ' ρ' ∧ (whT mt mbd k ρ').all (OutOk X π N0 H0 De), ⟨f, N, ρ, I, h⟩, ?_⟩
  rintro k σ' H' ⟨N', ρ', I', h'⟩
  cases k with
  | zero => exact False.elim h'
  | succ k =>
    refine hc I' (T.all_mono (fun b hb' H2 e2 => ?_) (T.all_bind.mp h'))
    cases b with
    | false => exact iteF (hb' _ _ _ (I'.ext e2))
    | true =>
      refine iteT ⟨fun σ'' H'' => ∃ N'' ρ'', EnvOk X.K X.prog X.w π N0 H0 N'' H'' σ'' ρ'' ∧ (whT mt mbd k ρ'').all (OutOk X π N0 H0 De), fun σ'' H'' q => ⟨k, Nat.lt_succ_self k, q⟩, ?_⟩
      refine hb (I'.ext e2) (T.all_mono (fun o ho => ?_) (T.all_bind.mp hb'))
      cases o with
      | nx ρ3 => exact fun N4 H4 σ4 I4 => ⟨N4, ρ3, I4, ho⟩
      | ct ρ3 => exact fun N4 H4 σ4 I4 => ⟨N4, ρ3, I4, ho⟩
      | bk ρ3 => exact fun N4 H4 σ4 I4 => ho N4 H4 σ4 I4
      | rt d => exact ho
end
end Pd

namespace Pd
open PySem L2 RZ

def asL : D → T (List D)
  | .lst ds => .ret ds
  | _ => .fail
def asTp : D → T (List D)
  | .tup ds => .ret ds
  | _ => .fail
def iLst (m : Rho → T D) : Rho → T (List D) := fun ρ => (m ρ).bind asL
def iTp (m : Rho → T D) : Rho → T (List D) := fun ρ => (m ρ).bind asTp
def upto (lo : Int) : Nat → List D
  | 0 => []
  | n + 1 => .int lo :: upto (lo + 1) n
theorem upto_len : ∀ (lo : Int) (n : Nat), (upto lo n).length = n
  | _, 0 => rfl
  | lo, n + 1 => congrArg Nat.succ (upto_len (lo + 1) n)
theorem upto_get : ∀ {lo : Int} {n i : Nat} {d : D}, (upto lo n)[i]? = some d → i < n ∧ d = .int (lo + i)
  | _, 0, _, _, h => by cases h
  | lo, n + 1, 0, d, h => by
    cases h
    exact ⟨Nat.succ_pos n, by simp⟩
  | lo, n + 1, i + 1, d, h => by
    obtain ⟨a, b⟩ := upto_get (lo := lo + 1) (n := n) (i := i) h
    refine ⟨Nat.succ_lt_succ a, ?_⟩
    rw [b]
    congr 1
    omega
def rng1 : List D → T (List D)
  | [.int j] => cond (decide (j ≤ 100000) && decide (-100000 ≤ j)) (.ret (upto 0 j.toNat)) .fail
  | _ => .fail
def rng2 : List D → T (List D)
  | [.int i, .int j] => cond (decide (j ≤ 100000) && decide (-100000 ≤ j) && (decide (i ≤ 100000) && decide (-100000 ≤ i))) (.ret (upto i (j - i).toNat)) .fail
  | _ => .fail
def iRg (f : List D → T (List D)) (ms : Rho → T (List D)) : Rho → T (List D) := fun ρ => (ms ρ).bind f
def zipD : List D → List D → List D
  | a :: as, b :: bs => .tup [a, b] :: zipD as bs
  | _, _ => []
theorem zipD_get : ∀ {as bs : List D} {i : Nat} {d : D}, (zipD as bs)[i]? = some d → ∃ a b, as[i]? = some a ∧ bs[i]? = some b ∧ d = .tup [a, b]
  | [], _, _, _, h => by simp [zipD] at h
  | _ :: _, [], _, _, h => by simp [zipD] at h
  | a :: as, b :: bs, 0, d, h => by cases h; exact ⟨a, b, rfl, rfl, rfl⟩
  | a :: as, b :: bs, i + 1, d, h => zipD_get (as := as) (bs := bs) (i := i) h
theorem zipD_len : ∀ (as bs : List D), (zipD as bs).length = min as.length bs.length
  | [], _ => by simp [zipD]
  | _ :: _, [] => by simp [zipD]
  | a :: as, b :: bs => by
    show (zipD as bs).length + 1 = min (as.length + 1) (bs.length + 1)
    rw [zipD_len as bs]
    omega
/-- zip of two tuples -/
def zipT : List D → T (List D)
  | [.tup as, .tup bs] => .ret (zipD as bs)
  | _ => .fail
def zipLs : List D → T (List D)
  | [.lst as, .lst bs] => .ret (zipD as bs)
  | _ => .fail

/-! comprehensions -/
def compT (g : D → Rho → T Rho) (mt : Rho → T Bool) (me : Rho → T D) (ρ : Rho) : List D → List D → T (List D)
  | [], acc => .ret acc
  | d :: ds, acc => (g d ρ).bind fun ρ2 => (mt ρ2).bind fun b => cond b ((me ρ2).bind fun y => cond (small acc) (compT g mt me ρ ds (acc ++ [y])) .fail) (compT g mt me ρ ds acc)
def wipeR (ρ : Rho) : List Nat → Rho
  | [] => ρ
  | v :: vs => (wipeR ρ vs).set v .un
def yesT : Rho → T Bool := fun _ => .ret true
def lComp (vs : List Nat) (mi : Rho → T (List D)) (g : D → Rho → T Rho) (mt : Rho → T Bool) (me : Rho → T D) : Rho → T (List D) := fun ρ => (mi ρ).bind fun ds => compT g mt me (wipeR ρ vs) ds []

section
variable {X : Cx} {a b c e : Expr} {es : List Expr} {m ma mb : Rho → T D} {pos : Pos} {tg : Expr}
theorem vis_some {π : Addr} {N N' : Addr → Bool} {H H' : Hp} {a : Addr} {o : HO} (k : Kp π (Hide N H) (Hide N' H')) (na : N a = false) (ne : a ≠ π) (h : H a = some o) : N' a = false ∧ H' a = some o := by
  have := k a o ne (by rw [hide_in na]; exact h)
  exact hide_some this
theorem walk_list {π : Addr} {N : Addr → Bool} {H : Hp} {a : Addr} {vs : List V} {ds : List D} (ha : H a = some (.lst vs)) (na : N a = false) (ne : a ≠ π) (r : RvL X.K X.prog X.w π (Hide N H) vs ds) : Walk X π (Hide N H) (Itl X.K a) ds := fun N' H' i hn k => by
  obtain ⟨n', h'⟩ := vis_some k na ne ha
  have sq : SqL X.K H' a vs := .inl (.inl h')
  refine ⟨fun d hd => ?_, fun e => ⟨vs, sq, by rw [r.length, e]; exact Nat.le_refl _⟩⟩
  obtain ⟨v, hv, rv⟩ := r.get hd
  refine ⟨⟨vs, v, sq, hv⟩, fun x H2 y => ?_⟩
  obtain ⟨rfl, y⟩ := y
  have := y vs sq
  rw [hv] at this
  cases this
  exact ⟨Ex.refl hn.pot, rv.mono k⟩
theorem si_list (ha : Snd X a m) : SndI X tg a (iLst m) := fun {π N0 H0 N H σ ρ R} I h => ⟨_, pi_list pe_wp, ha I (T.all_mono (fun d hd => by
  intro v H2 e2 r
  cases d with
  | lst ds =>
    obtain ⟨a, vs, rfl, ha, na, ne, ra⟩ := id r.lstE
    exact ⟨a, rfl, ⟨vs, .inl (.inl ha)⟩, hd _ _ e2 (walk_list ha na ne ra)⟩
  | _ => exact False.elim hd) (T.all_bind.mp h))⟩
theorem sqt_kp {π : Addr} {N N' : Addr → Bool} {H H' : Hp} {v : V} {ds : List D} (k : Kp π (Hide N H) (Hide N' H')) (r : Rv X.K X.prog X.w π (Hide N H) v (.tup ds)) : ∃ a vs, v = .ref a ∧ SqT X.K H a vs ∧ SqT X.K H' a vs ∧ RvL X.K X.prog X.w π (Hide N H) vs ds ∧ RvL X.K X.prog X.w π (Hide N' H') vs ds := by
  cases r with
  | tup h n r =>
    obtain ⟨na, h1⟩ := hide_some h
    exact ⟨_, _, rfl, .inl (.inl h1), .inl (.inl (vis_some k na n h1).2), r, r.mono k⟩
  | tupK h r => exact ⟨_, _, rfl, h _, h _, r, r.mono k⟩
theorem walk_tup {π : Addr} {N : Addr → Bool} {H : Hp} {a : Addr} {ds : List D} (r : Rv X.K X.prog X.w π (Hide N H) (.ref a) (.tup ds)) : Walk X π (Hide N H) (Itt X.K a) ds := fun N' H' i hn k => by
  obtain ⟨a', vs, e, _, sq, _, ra⟩ := sqt_kp k r
  cases e
  refine ⟨fun d hd => ?_, fun e => ⟨vs, sq, by rw [ra.length, e]; exact Nat.le_refl _⟩⟩
  obtain ⟨v, hv, rv⟩ := ra.get hd
  refine ⟨⟨vs, v, sq, hv⟩, fun x H2 y => ?_⟩
  obtain ⟨rfl, y⟩ := y
  have := y vs sq
  rw [hv] at this
  cases this
  exact ⟨Ex.refl hn.pot, rv⟩
theorem si_tup (ha : Snd X a m) : SndI X tg a (iTp m) := fun {π N0 H0 N H σ ρ R} I h => ⟨_, pi_tup pe_wp, ha I (T.all_mono (fun d hd => by
  intro v H2 e2 r
  cases d with
  | tup ds =>
    obtain ⟨a, vs, rfl, ha, ra⟩ := id r.tupE
    exact ⟨a, rfl, ⟨vs, ha⟩, hd _ _ e2 (walk_tup r)⟩
  | _ => exact False.elim hd) (T.all_bind.mp h))⟩
theorem walk_range {π : Addr} {B : Hp} {lo : Int} {n : Nat} : Walk X π B (Itr lo n) (upto lo n) := fun N' H' i hn k => by
  refine ⟨fun d hd => ?_, fun e => by show n ≤ i; rw [e, upto_len]; exact Nat.le_refl _⟩
  obtain ⟨hi, rfl⟩ := upto_get hd
  refine ⟨hi, fun x H2 y => ?_⟩
  obtain ⟨rfl, rfl⟩ := y
  exact ⟨Ex.refl hn.pot, .int _⟩
theorem si_range1 {ms : Rho → T (List D)} {p : Pos} (hm : X.mg "range" = none) (ha : SndA X [a] ms) (hg : Gl X "range" := by rfl) (hs : starEach [a] X.env = [(false, eval a X.env)] := by rfl) : SndI X tg (.Call (.Name "range" p) [a] [] pos) (iRg rng1 ms) := fun {π N0 H0 N H σ ρ R} I h =>
  ⟨_, pi_range1 hg hm pa_wp hs, ha I (T.all_mono (fun ds hd => by
    intro vs H2 e2 r
    unfold rng1 at hd
    split at hd
    · obtain ⟨hb, hd⟩ := cond_all hd
      simp only [Bool.and_eq_true, decide_eq_true_eq] at hb
      cases r with
      | cons r t =>
        cases t; cases r
        exact ⟨_, rfl, by omega, by omega, hd _ _ e2 walk_range⟩
    · exact False.elim hd) (T.all_bind.mp h))⟩
theorem si_range2 {ms : Rho → T (List D)} {p : Pos} (hm : X.mg "range" = none) (ha : SndA X [a, b] ms) (hg : Gl X "range" := by rfl) (hs : starEach [a, b] X.env = [(false, eval a X.env), (false, eval b X.env)] := by rfl) (hs2 : starEach [b] X.env = [(false, eval b X.env)] := by rfl) : SndI X tg (.Call (.Name "range" p) [a, b] [] pos) (iRg rng2 ms) := fun {π N0 H0 N H σ ρ R} I h =>
  ⟨_, pi_range2 hg hm pa_wp hs hs2, ha I (T.all_mono (fun ds hd => by
    intro vs H2 e2 r
    unfold rng2 at hd
    split at hd
    · obtain ⟨hb, hd⟩ := cond_all hd
      simp only [Bool.and_eq_true, decide_eq_true_eq] at hb
      cases r with
      | cons r t =>
        cases t with
        | cons r2 t =>
          cases t; cases r; cases r2
          exact ⟨_, _, rfl, ⟨by omega, by omega, by omega, by omega⟩, hd _ _ e2 walk_range⟩
    · exact False.elim hd) (T.all_bind.mp h))⟩
theorem walk_zipT {π : Addr} {N : Addr → Bool} {H : Hp} {a b : Addr} {as bs : List D} (r : Rv X.K X.prog X.w π (Hide N H) (.ref a) (.tup as)) (r2 : Rv X.K X.prog X.w π (Hide N H) (.ref b) (.tup bs)) : Walk X π (Hide N H) (ItzT X.K a b) (zipD as bs) := fun N' H' i hn k => by
  obtain ⟨a', vs, e, _, sq, _, ra⟩ := sqt_kp k r
  cases e
  obtain ⟨b', us, e, _, sq2, _, rb⟩ := sqt_kp k r2
  cases e
  refine ⟨fun d hd => ?_, fun e => ⟨vs, us, sq, sq2, ?_⟩⟩
  · obtain ⟨x, y, hx, hy, rfl⟩ := zipD_get hd
    obtain ⟨v, hv, rv⟩ := ra.get hx
    obtain ⟨u, hu, ru⟩ := rb.get hy
    refine ⟨⟨vs, us, v, u, sq, sq2, hv, hu⟩, fun z H2 q => ?_⟩
    obtain ⟨T, x', y', rfl, hT, rfl, f1, f2⟩ := q
    have e1 := f1 vs sq
    have e2 := f2 us sq2
    rw [hv] at e1
    rw [hu] at e2
    cases e1; cases e2
    exact ⟨Ex.new hn.pot hT, .tup (hide_new (hn.new hT)) (hn.pot.ne hT) (.cons (rv.mono (Ex.new hn.pot hT).kp.hide) (.cons (ru.mono (Ex.new hn.pot hT).kp.hide) .nil))⟩
  · rw [zipD_len] at e
    rw [ra.length, rb.length]
    omega
theorem si_zipT {ms : Rho → T (List D)} {p tpos : Pos} {elts : List Expr} {kk : Nat} (hm : X.mg "zip" = none) (ha : SndA X [a, b] ms) (hg : Gl X "zip" := by rfl) (hs : starEach [a, b] X.env = (false, eval a X.env) :: starEach [b] X.env := by rfl) (hpl : (backTo pos (starEach [b] X.env)).any (·.1) = false := by rfl) :
    SndI X (.Tuple elts kk tpos) (.Call (.Name "zip" p) [a, b] [] pos) (iRg zipT ms) := fun {π N0 H0 N H σ ρ R} I h => ⟨_, pi_zipA hg hm pa_wp hs hpl, ha I (T.all_mono (fun ds hd => by
    intro vs H2 e2 r
    unfold zipT at hd
    split at hd
    · cases r with
      | cons r t =>
        cases t with
        | cons r2 t =>
          cases t
          obtain ⟨a, vs, rfl, ha, ra⟩ := id r.tupE
          obtain ⟨b, us, rfl, hb, rb⟩ := id r2.tupE
          exact ⟨a, b, vs, us, rfl, .inr ⟨ha, hb, hd _ _ e2 (walk_zipT r r2)⟩⟩
    · exact False.elim hd) (T.all_bind.mp h))⟩

/-! ### comprehensions -/
theorem wipe_ok {K : PySem.W.Frag} {P : Program} {w : World} {π : Addr} {N0 N : Addr → Bool} {H0 H : Hp} {σ : L2.St} {ρ : Rho} (I : EnvOk K P w π N0 H0 N H σ ρ) : ∀ vs : List Nat, EnvOk K P w π N0 H0 N H (wipe σ vs) (wipeR ρ vs)
  | [] => I
  | v :: vs => (wipe_ok I vs).wipe1
/-- the readings of a comprehension's pieces -/
def bE (X : Cx) (scope : Scope) (e : Expr) : TE := fun σ H Q => ∀ (s : Shared) (Hh : Hp) (C : Addr) (cl : List (Str × Addr)) (fp : List Addr), wpE (X.blk s Hh scope (compEnvC scope cl C X.env) fp) e σ H Q
def bG (X : Cx) (scope : Scope) (e : Expr) : TG := fun v σ H Q => ∀ (s : Shared) (Hh : Hp) (C : Addr) (cl : List (Str × Addr)) (fp : List Addr), wpG (X.blk s Hh scope (compEnvC scope cl C X.env) fp) e v σ H Q
def wpTs (X : Cx) (ifs : List Expr) : TT := fun σ H Q => ∃ te, PTs X ifs te ∧ te σ H Q
theorem pts_wp {ifs : List Expr} : PTs X ifs (wpTs X ifs) := ⟨fun pins s σ H Q I ⟨_, h, q⟩ => h.run pins s σ H Q I q⟩
def bT (X : Cx) (scope : Scope) (ifs : List Expr) : TT := fun σ H Q => ∀ (s : Shared) (Hh : Hp) (C : Addr) (cl : List (Str × Addr)) (fp : List Addr), wpTs (X.blk s Hh scope (compEnvC scope cl C X.env) fp) ifs σ H Q
def SndTs (X : Cx) (ifs : List Expr) (m : Rho → T Bool) : Prop := ∀ ⦃π : Addr⦄ ⦃N0 : Addr → Bool⦄ ⦃H0 : Hp⦄ ⦃N : Addr → Bool⦄ ⦃H : Hp⦄ ⦃σ : L2.St⦄ ⦃ρ : Rho⦄ ⦃Q : Bool → Hp → Prop⦄, EnvOk X.K X.prog X.w π N0 H0 N H σ ρ → (m ρ).all (fun b => ∀ H2, Ex π H H2 → Q b H2) → wpTs X ifs σ H Q
theorem ts_nil : SndTs X [] yesT := fun {_ _ _ _ _ _ _ _} I h => ⟨_, pts_nil, h _ (Ex.refl I.hn.pot)⟩
theorem ts_one {mt : Rho → T Bool} (hc : SndT X c mt) : SndTs X [c] mt := fun {_ _ _ _ _ _ _ _} I h => ⟨_, pts_one pt_wp, hc I h⟩

theorem EnvOk.hideNew {K : PySem.W.Frag} {P : Program} {w : World} {π : Addr} {N0 N : Addr → Bool} {H0 H H' : Hp} {σ : L2.St} {ρ : Rho} {l : Addr} {vs : List V} (I : EnvOk K P w π N0 H0 N H σ ρ) (e : Ex π H H') (hl : H l = none) (hl' : H' l = some (.lst vs)) (r : ∃ ds, RvL K P w π (Hide (plus N l) H') vs ds) : EnvOk K P w π N0 H0 (plus N l) H' σ ρ := by
  obtain ⟨ds, r⟩ := r
  have J := I.newAny (i := σ.length) (x := .own ds) e hl (by rw [hl']; exact fun z => by cases z) (.inl ⟨vs, ds, rfl, hl', r⟩)
  rw [List.set_eq_of_length_le (Nat.le_refl _), List.set_eq_of_length_le (by rw [I.len]; exact Nat.le_refl _)] at J
  exact J
/-- a hidden list that no name holds changes -/
theorem EnvOk.upHid {K : PySem.W.Frag} {P : Program} {w : World} {π : Addr} {N0 N : Addr → Bool} {H0 H : Hp} {σ : L2.St} {ρ : Rho} {l : Addr} {o : HO} (I : EnvOk K P w π N0 H0 N H σ ρ) (nl : N l = true) (n0 : N0 l = false)
    (no : ∀ (j : Nat) (f : Ent) (l' : Addr), ρ[j]? = some f → f.isOwn = true → σ[j]? = some (some (.ref l')) → l' ≠ l) : EnvOk K P w π N0 H0 N (upd H l o) σ ρ := by
  have lpi := N_ne I.hn nl
  have e : Hide N (upd H l o) = Hide N H := by
    funext a
    by_cases q : a = l
    · subst q; simp [Hide, nl]
    · unfold Hide; rw [upd_ne q]
  refine ⟨⟨?_, I.hn.npi, fun a h => ?_⟩, fun a u n h => ?_, I.sub, I.own0, I.len, fun j d h => ?_, fun j x h xo => ?_, I.inj⟩
  · obtain ⟨x, y, q, r⟩ := I.hn.pot
    exact ⟨x, y, by rw [upd_ne lpi.symm]; exact q, r⟩
  · by_cases q : a = l
    · subst q; rw [upd_same]; exact fun z => by cases z
    · rw [upd_ne q]; exact I.hn.isS a h
  · by_cases q : a = l
    · subst q
      rcases I.own0 a nl with z | z
      · rw [n0] at z; cases z
      · rw [z] at h; cases h
    · rw [upd_ne q]; exact I.ex a u n h
  · rw [e]; exact I.val j d h
  · rw [e]
    obtain ⟨l', o', a, n, n1, b, c⟩ := I.own j x h xo
    exact ⟨l', o', a, n, n1, by rw [upd_ne (no j _ l' h xo a)]; exact b, c⟩

theorem wipe_at {j : Nat} : ∀ (vs : List Nat) (τ τ' : L2.St), τ.length = τ'.length → j ∈ vs → (wipe τ vs)[j]? = (wipe τ' vs)[j]?
  | [], _, _, _, h => by cases h
  | u :: us, τ, τ', hl, hm => by
    unfold wipe
    by_cases q2 : u = j
    · subst q2
      by_cases c : u < (wipe τ us).length
      · rw [List.getElem?_set_self c, List.getElem?_set_self (by rw [wipe_length] at c ⊢; omega)]
      · rw [List.getElem?_eq_none (by rw [List.length_set]; omega), List.getElem?_eq_none (by rw [List.length_set]; rw [wipe_length] at c ⊢; omega)]
    · rw [List.getElem?_set_ne q2, List.getElem?_set_ne q2]
      exact wipe_at us τ τ' hl (by
        rcases List.mem_cons.mp hm with e | e
        · exact absurd e.symm q2
        · exact e)
theorem wipe_ext {vs : List Nat} {τ τ' : L2.St} (hl : τ.length = τ'.length) (h : ∀ j : Nat, j ∉ vs → τ[j]? = τ'[j]?) : wipe τ vs = wipe τ' vs := by
  refine List.ext_getElem? fun j => ?_
  by_cases c : j ∈ vs
  · exact wipe_at vs τ τ' hl c
  · rw [wipe_out c, wipe_out c]
    exact h j c
theorem wipe_wipe {vs : List Nat} {σ : L2.St} : wipe (wipe σ vs) vs = wipe σ vs := wipe_ext (wipe_length _ _) fun j hj => wipe_out hj
theorem wipe_set {vs : List Nat} {σ : L2.St} {i : Nat} {x : Option V} (hi : i ∈ vs) : wipe (σ.set i x) vs = wipe σ vs := wipe_ext (by rw [List.length_set]) fun j hj => List.getElem?_set_ne fun e => hj (by rw [← e]; exact hi)
/-- a comprehension's target: its own names alone are stored -/
def SndGw (X : Cx) (vs : List Nat) (tg : Expr) (g : D → Rho → T Rho) : Prop := ∀ ⦃π : Addr⦄ ⦃N0 : Addr → Bool⦄ ⦃H0 : Hp⦄ ⦃N : Addr → Bool⦄ ⦃H : Hp⦄ ⦃σ : L2.St⦄ ⦃ρ : Rho⦄ ⦃v : V⦄ ⦃d : D⦄ ⦃Q : L2.St → Hp → Prop⦄, EnvOk X.K X.prog X.w π N0 H0 N H σ ρ → Rv X.K X.prog X.w π (Hide N H) v d →
  (g d ρ).all (fun ρ' => ∀ σ', EnvOk X.K X.prog X.w π N0 H0 N H σ' ρ' → Q σ' H) → wpG X tg v σ H fun σ' H' => wipe σ' vs = wipe σ vs ∧ Q σ' H'
def SndGsw (X : Cx) (vs : List Nat) (tgs : List Expr) (g : List D → Rho → T Rho) : Prop := ∀ ⦃π : Addr⦄ ⦃N0 : Addr → Bool⦄ ⦃H0 : Hp⦄ ⦃N : Addr → Bool⦄ ⦃H : Hp⦄ ⦃σ : L2.St⦄ ⦃ρ : Rho⦄ ⦃us : List V⦄ ⦃ds : List D⦄ ⦃Q : L2.St → Hp → Prop⦄, EnvOk X.K X.prog X.w π N0 H0 N H σ ρ → RvL X.K X.prog X.w π (Hide N H) us ds →
  (g ds ρ).all (fun ρ' => ∀ σ', EnvOk X.K X.prog X.w π N0 H0 N H σ' ρ' → Q σ' H) → ∃ t, PGs X tgs t ∧ t us σ H fun σ' H' => wipe σ' vs = wipe σ vs ∧ Q σ' H'
theorem gw_name {i : Nat} {x : Str} {vs : List Nat} (hN : X.N.Nodup) (hm : i ∈ vs) (hi : X.N[i]? = some x := by rfl) (hx : Loc X.env.scope x := by first | exact .inl rfl | exact .inr rfl) (hf : X.fn x = true ∨ X.env.scope.names.lookup x = some .local := by first | exact .inl rfl | exact .inr rfl | assumption) : SndGw X vs (.Name x pos) (gNm i) := fun {_ _ _ _ _ _ _ _ _ _} I r h => ⟨_, pg_name hN hi hx hf, wipe_set hm, h _ (I.set r)⟩
theorem wpG_mono {e : Expr} {v : V} {σ : L2.St} {H : Hp} {Q Q' : L2.St → Hp → Prop} (h : wpG X e v σ H Q) (k : ∀ a b, Q a b → Q' a b) : wpG X e v σ H Q' := by
  obtain ⟨t, p, q⟩ := h
  exact ⟨fun v σ H Q => ∃ Q0, (∀ a b, Q0 a b → Q a b) ∧ t v σ H Q0, ⟨fun pins s σ H v u Q I r ⟨Q0, k, q⟩ => thn (p.run pins s σ H v u Q0 I r q) fun _ s' ⟨σ', H', I', z⟩ => ⟨σ', H', I', k _ _ z⟩⟩, Q, k, q⟩
theorem pgs_mono {es : List Expr} {us : List V} {σ : L2.St} {H : Hp} {Q Q' : L2.St → Hp → Prop} (h : ∃ t, PGs X es t ∧ t us σ H Q) (k : ∀ a b, Q a b → Q' a b) : ∃ t, PGs X es t ∧ t us σ H Q' := by
  obtain ⟨t, p, q⟩ := h
  exact ⟨fun v σ H Q => ∃ Q0, (∀ a b, Q0 a b → Q a b) ∧ t v σ H Q0, ⟨fun pins s σ H v u Q I r ⟨Q0, k, q⟩ => thn (p.run pins s σ H v u Q0 I r q) fun _ s' ⟨σ', H', I', z⟩ => ⟨σ', H', I', k _ _ z⟩⟩, Q, k, q⟩
theorem gsw_nil {vs : List Nat} : SndGsw X vs [] gsNil := fun {π N0 H0 N H σ ρ us ds Q} I r h => by
  cases r with
  | nil => exact ⟨_, pgs_nil, rfl, rfl, h _ I⟩
  | cons _ _ => exact False.elim h
theorem gsw_cons {vs : List Nat} {e : Expr} {es : List Expr} {g : D → Rho → T Rho} {gs : List D → Rho → T Rho} (h1 : SndGw X vs e g) (h2 : SndGsw X vs es gs) (hs : (assignEach (e :: es) X.env).map (·.2) = assign e X.env :: (assignEach es X.env).map (·.2) := by rfl) : SndGsw X vs (e :: es) (gsCons g gs) := fun {π N0 H0 N H σ ρ us ds Q} I r h => by
  cases r with
  | nil => exact False.elim h
  | cons r t =>
    refine ⟨_, pgs_cons (u := fun vs σ H Q => ∃ t, PGs X es t ∧ t vs σ H Q) pg_wp ⟨fun pins s σ H vs us Q I r ⟨_, h, q⟩ => h.run pins s σ H vs us Q I r q⟩ hs, _, _, rfl, ?_⟩
    refine wpG_mono (h1 (Q := fun σ1 H1 => ∃ tt, PGs X es tt ∧ tt _ σ1 H1 fun σ' H' => wipe σ' vs = wipe σ1 vs ∧ Q σ' H') I r (T.all_mono (fun ρ' hρ σ' I' => h2 I' t hρ) (T.all_bind.mp h))) fun σ1 H1 q => ?_
    obtain ⟨e1, q⟩ := q
    exact pgs_mono q fun σ2 H2 z => ⟨z.1.trans e1, z.2⟩
theorem gw_tup {vs : List Nat} {es : List Expr} {k n : Nat} {gs : List D → Rho → T Rho} (hc : X.calm = true) (h : SndGsw X vs es gs) (hn : (assignEach es X.env).length = n := by rfl) (hst : (assignEach es X.env).findIdx? (·.1) = none := by rfl) : SndGw X vs (.Tuple es k pos) (gTp n gs) := fun {π N0 H0 N H σ ρ v d Q} I r q => by
  unfold gTp at q
  split at q
  · obtain ⟨hl, q⟩ := cond_all q
    obtain ⟨a, us, rfl, ha, ra⟩ := id r.tupE
    exact ⟨_, pg_tup (t := fun vs σ H Q => ∃ t, PGs X es t ∧ t vs σ H Q) hc ⟨fun pins s σ H vs us Q I r ⟨_, h, q⟩ => h.run pins s σ H vs us Q I r q⟩ hn hst, a, us, rfl, ha, by rw [ra.length]; exact by simpa using hl, h I ra q⟩
  · exact False.elim q
/-- SndG in a comprehension: its own names alone are stored -/
theorem lc_run {π : Addr} {N0 N : Addr → Bool} {H0 H : Hp} {σ : L2.St} {ρ : Rho} {Q : VK} {tg it elt : Expr} {ifs : List Expr} {scope : Scope} {vs : List Nat} {mi : Rho → T (List D)} {g : D → Rho → T Rho} {mt : Rho → T Bool} {me : Rho → T D}
    (hi : SndI X tg it mi) (hg : ∀ s Hh C cl fp, SndGw (X.blk s Hh scope (compEnvC scope cl C X.env) fp) vs tg g) (ht : ∀ s Hh C cl fp, SndTs (X.blk s Hh scope (compEnvC scope cl C X.env) fp) ifs mt) (he : ∀ s Hh C cl fp, Snd (X.blk s Hh scope (compEnvC scope cl C X.env) fp) elt me)
    (I : EnvOk X.K X.prog X.w π N0 H0 N H σ ρ) (h : (lComp vs mi g mt me ρ).all (Kl X π N H Q)) : tLc (wpI X tg it) (bG X scope tg) (bT X scope ifs) (bE X scope elt) vs σ H Q := by
  refine hi I (T.all_mono (fun ds hds J H2 e2 wk => ?_) (T.all_bind.mp h))
  intro Dl hD
  have I2 := I.ext e2
  have hD0 : H Dl = none := by
    cases c : H Dl with
    | none => rfl
    | some o => rw [e2.kp Dl o (I2.hn.pot.ne hD) c] at hD; cases hD
  have eN : Ex π H2 (upd H2 Dl (.lst [])) := Ex.new I2.hn.pot hD
  have dpi := I2.hn.pot.ne hD
  have I3 : EnvOk X.K X.prog X.w π N0 H0 (plus N Dl) (upd H2 Dl (.lst [])) (wipe σ vs) (wipeR ρ vs) := wipe_ok (I2.hideNew eN hD upd_same ⟨[], .nil⟩) vs
  have n0 : N0 Dl = false := by
    cases c : N0 Dl with
    | false => rfl
    | true =>
      have := I2.hn.new hD
      rw [I2.sub Dl c] at this
      cases this
  -- no name holds the new list
  have no : ∀ (j : Nat) (f : Ent) (l' : Addr), (wipeR ρ vs)[j]? = some f → f.isOwn = true → (wipe σ vs)[j]? = some (some (.ref l')) → l' ≠ Dl := fun j f l' h1 o1 s1 => by
    have W := wipe_ok I2 vs
    have nD : ∀ {o : HO}, H2 l' = some o → l' ≠ Dl := fun {o} h z => by rw [z, hD] at h; cases h
    obtain ⟨l2, o2, a, _, _, b, _⟩ := W.own j f h1 o1
    rw [s1] at a
    cases a
    exact nD b
  refine ⟨fun i k H' => k = ds.length - i ∧ i ≤ ds.length ∧ ∃ acc accD, EnvOk X.K X.prog X.w π N0 H0 (plus N Dl) H' (wipe σ vs) (wipeR ρ vs) ∧ Kp π H2 H' ∧ H' Dl = some (.lst acc) ∧ RvL X.K X.prog X.w π (Hide (plus N Dl) H') acc accD ∧ (compT g mt me (wipeR ρ vs) (ds.drop i) accD).all (Kl X π N H Q),
    ⟨ds.length, rfl, Nat.zero_le _, [], [], I3, eN.kp, upd_same, .nil, hds⟩, ?_⟩
  rintro i k H' ⟨rfl, hle, acc, accD, I', kp, hDl, rl, hall⟩
  have vis : Kp π (Hide N H2) (Hide (plus N Dl) H') := fun a o n q => by
    obtain ⟨na, ha⟩ := hide_some q
    have ne : a ≠ Dl := fun z => by rw [z, hD] at ha; cases ha
    rw [hide_in (by simp [plus, na, ne])]
    exact kp a o n ha
  have w := wk (plus N Dl) H' i I'.hn vis
  by_cases hlt : i < ds.length
  · have hget : ds[i]? = some ds[i] := List.getElem?_eq_getElem hlt
    obtain ⟨go, yl⟩ := w.1 _ hget
    rw [List.drop_eq_getElem_cons hlt] at hall
    refine .inr ⟨go, fun H'' => ∃ acc accD, EnvOk X.K X.prog X.w π N0 H0 (plus N Dl) H'' (wipe σ vs) (wipeR ρ vs) ∧ Kp π H2 H'' ∧ H'' Dl = some (.lst acc) ∧ RvL X.K X.prog X.w π (Hide (plus N Dl) H'') acc accD ∧ (compT g mt me (wipeR ρ vs) (ds.drop (i + 1)) accD).all (Kl X π N H Q), fun H'' q => ⟨ds.length - (i + 1), by omega, rfl, hlt, q⟩, fun x H'' y => ?_⟩
    obtain ⟨e3, rx⟩ := yl x H'' y
    have I4 := I'.ext e3
    refine fun s Hh C cl fp => wpG_mono (hg s Hh C cl fp (Q := fun σ2 H2' => bT X scope ifs σ2 H2' fun b H3 => if b = true then bE X scope elt σ2 H3 fun y H4 => ∃ acc, H4 Dl = some (.lst acc) ∧ acc.length < sizeLine ∧
      (∃ acc' accD, EnvOk X.K X.prog X.w π N0 H0 (plus N Dl) (upd H4 Dl (.lst (acc ++ [y]))) (wipe σ vs) (wipeR ρ vs) ∧ Kp π H2 (upd H4 Dl (.lst (acc ++ [y]))) ∧ (upd H4 Dl (.lst (acc ++ [y]))) Dl = some (.lst acc') ∧ RvL X.K X.prog X.w π (Hide (plus N Dl) (upd H4 Dl (.lst (acc ++ [y])))) acc' accD ∧ (compT g mt me (wipeR ρ vs) (ds.drop (i + 1)) accD).all (Kl X π N H Q))
      else ∃ acc' accD, EnvOk X.K X.prog X.w π N0 H0 (plus N Dl) H3 (wipe σ vs) (wipeR ρ vs) ∧ Kp π H2 H3 ∧ H3 Dl = some (.lst acc') ∧ RvL X.K X.prog X.w π (Hide (plus N Dl) H3) acc' accD ∧ (compT g mt me (wipeR ρ vs) (ds.drop (i + 1)) accD).all (Kl X π N H Q))
      (I4 : EnvOk X.K X.prog X.w π N0 H0 (plus N Dl) H'' (wipe σ vs) (wipeR ρ vs)) rx (T.all_mono (fun ρ2 h2 => ?_) (T.all_bind.mp hall))) fun σ' H' q => ⟨q.1.trans wipe_wipe, q.2⟩
    intro σ2 I5 s Hh C cl fp
    refine ht s Hh C cl fp I5 (T.all_mono (fun b hb => ?_) (T.all_bind.mp h2))
    intro H5 e5
    have e35 := e3.trans e5
    cases b with
    | false => exact iteF ⟨acc, accD, I4.ext e5, kp.trans e35.kp, e35.kp Dl _ dpi hDl, rl.mono e35.kp.hide, hb⟩
    | true =>
      refine iteT fun s Hh C cl fp => he s Hh C cl fp (I5.ext e5 : EnvOk X.K X.prog X.w π N0 H0 (plus N Dl) H5 σ2 ρ2) (T.all_mono (fun y hy => ?_) (T.all_bind.mp hb))
      intro v H6 e6 rv
      obtain ⟨hsm, hy⟩ := cond_all hy
      have e36 := e35.trans e6
      have hD6 := e36.kp Dl _ dpi hDl
      have hd : Hide (plus N Dl) (upd H6 Dl (.lst (acc ++ [v]))) = Hide (plus N Dl) H6 := by
        funext a
        by_cases q : a = Dl
        · subst q; simp [Hide, plus]
        · unfold Hide; rw [upd_ne q]
      refine ⟨acc, hD6, by rw [rl.length]; exact Nat.lt_of_le_of_lt (of_decide_eq_true hsm) (by decide), acc ++ [v], accD ++ [y], ((I4.ext (e5.trans e6)).upHid plus_self n0 no), ?_, upd_same, ?_, hy⟩
      · intro a o n q
        have ne : a ≠ Dl := fun z => by rw [z, hD] at q; cases q
        rw [upd_ne ne]
        exact (kp.trans e36.kp) a o n q
      · rw [hd]
        exact (rl.mono e36.kp.hide).append (.cons rv .nil)
  · have e : i = ds.length := by omega
    subst e
    rw [List.drop_length] at hall
    exact .inl ⟨w.2 rfl, hall Dl acc H' ⟨e2.kp.trans kp, I'.hn.pot⟩ hD0 hDl rl⟩
end
end Pd

namespace Pd
open PySem L2

def runB (n : Nat) (m : Rho → T Out) : List D → T D := fun ds => (m (ds.map Ent.val ++ List.replicate (n - ds.length) Ent.un)).bind fun o => match o with
  | .nx _ => .ret .non
  | .rt d => .ret d
  | .bk _ => .fail
  | .ct _ => .fail
theorem env_start {K : PySem.W.Frag} {P : Program} {w : World} {π : Addr} {N : Addr → Bool} {H : Hp} {vs : List V} {ds : List D} {Nm : List Str} (hn : HN π N H) (r : RvL K P w π (Hide N H) vs ds) :
    EnvOk K P w π N H N H (L2.start Nm vs) (ds.map Ent.val ++ List.replicate (Nm.length - ds.length) Ent.un) := by
  have hl := r.length
  have at' : ∀ (i : Nat) (e : Ent), (ds.map Ent.val ++ List.replicate (Nm.length - ds.length) Ent.un)[i]? = some e → e = .un ∨ ∃ d, ds[i]? = some d ∧ e = .val d := fun i e h => by
    by_cases c : i < ds.length
    · rw [List.getElem?_append_left (by rw [List.length_map]; exact c), List.getElem?_map] at h
      cases q : ds[i]? with
      | none => rw [q] at h; cases h
      | some d => rw [q] at h; cases h; exact .inr ⟨d, rfl, rfl⟩
    · rw [List.getElem?_append_right (by rw [List.length_map]; omega), List.getElem?_replicate] at h
      split at h
      · cases h; exact .inl rfl
      · cases h
  refine ⟨hn, .refl, fun _ h => h, fun _ h => .inl h, ?_, fun i d h => ?_, fun i x h xo => ?_, fun i j e f l h1 h2 o1 o2 => ?_⟩
  · unfold L2.start
    rw [List.length_append, List.length_append, List.length_map, List.length_map, List.length_replicate, List.length_replicate, hl]
  · rcases at' i _ h with e | ⟨d', hd, e⟩
    · cases e
    · cases e
      obtain ⟨v, hv, rv⟩ := r.get hd
      refine ⟨v, ?_, rv⟩
      have c : i < vs.length := (List.getElem?_eq_some_iff.mp hv).1
      unfold L2.start
      rw [List.getElem?_append_left (by rw [List.length_map]; exact c), List.getElem?_map, hv]
      rfl
  · rcases at' i _ h with e | ⟨d', hd, e⟩ <;> (subst e; cases xo)
  · rcases at' i _ h1 with e | ⟨d', hd, e⟩ <;> (subst e; cases o1)
section
variable {P : Program} {w : World} {K : PySem.W.Frag} {mg : Str → Option Value} {base : Heap}
/-- a def of the text, by its body's reading -/
theorem fn_ok {x qual : Str} {st : Stmt} {f : Addr} {fd : FuncData} {Nm ps : List Str} {k n p : Nat} {m : Rho → T Out} {G : List D → T D} (F : Fun K x qual st f fd) (S : FnScope Nm ps (defScope st)) (hn : Nm.length = n) (hp : ps.length = p) (hG : G = runB n m)
    (hb : ∀ (cdv : Value) (A : Around) (outer : List Env) (s : Shared) (H : Hp) (E : XK), Room k (A.deeper (PyProof.Rows.envOfC qual (defScope st) s.heap.objs.size f cdv)) → SndB (cxOf CX0 P w K mg base Nm qual (defScope st) f cdv A outer s H E).nox (defBody st) m) :
    FnOk P w K mg base CX0 (k + 1) f fd ps (spD K P w p G) := by
  subst hn hp hG
  refine F.ok S (fun vs H Q E h => ?_) (fun cdv A outer s H vs Q E hr h => ?_)
  · obtain ⟨π, N, ds, hn, r, hl, _⟩ := h
    exact hl
  · obtain ⟨π, N, ds, hn, r, hl, hall⟩ := h
    refine hb cdv A outer s H E hr (env_start hn r) (T.all_mono (fun o ho => ?_) (T.all_bind.mp hall))
    cases o with
    | nx ρ => exact fun N' H' σ' I => ho .non H' ⟨I.ex, I.hn.pot⟩ .non
    | rt d => exact fun v H' e r => ho v H' e r
    | bk ρ => exact False.elim ho
    | ct ρ => exact False.elim ho
end
section
variable {X : Cx} {a b c e : Expr} {es : List Expr} {m ma mb : Rho → T D} {pos : Pos} {tg it elt : Expr} {ifs : List Expr} {scope : Scope} {own : List (Str × Nat)} {mi : Rho → T (List D)} {g : D → Rho → T Rho} {mt : Rho → T Bool} {me : Rho → T D}
theorem sl_comp (own : List (Str × Nat)) {vs : List Nat} (hv : own.map (·.2) = vs) (hc : X.calm = true) (hN : X.N.Nodup) (ok : BlkOk X.N X.env.scope scope own) (hi : SndI X tg it mi) (hg : ∀ s Hh C cl fp, SndGw (X.blk s Hh scope (compEnvC scope cl C X.env) fp) vs tg g) (ht : ∀ s Hh C cl fp, SndTs (X.blk s Hh scope (compEnvC scope cl C X.env) fp) ifs mt) (he : ∀ s Hh C cl fp, Snd (X.blk s Hh scope (compEnvC scope cl C X.env) fp) elt me)
    (hs : ∀ x, foldedSetIterable it X.env x = pure x := by intro _; rfl) : SndL X (.ListComp elt [⟨tg, it, ifs, 0⟩] scope pos) (lComp vs mi g mt me) := fun {_ _ _ _ _ _ _ _} I h =>
  ⟨_, pe_lc (g := bG X scope tg) (tt := bT X scope ifs) (te := bE X scope elt) hc hN pi_wp ok (fun s H C cl fp => ⟨fun pins s' σ H' v u Q I r h => pg_wp.run pins s' σ H' v u Q I r (h s H C cl fp)⟩) (fun s H C cl fp => ⟨fun pins s' σ H' Q I h => pts_wp.run pins s' σ H' Q I (h s H C cl fp)⟩)
    (fun s H C cl fp => ⟨fun pins s' σ H' Q I h => pe_wp.run pins s' σ H' Q I (h s H C cl fp)⟩) hs, by rw [hv]; exact lc_run hi hg ht he I h⟩
theorem ss_ownLc {i : Nat} {y : Str} {py spos : Pos} (own : List (Str × Nat)) {vs : List Nat} (hv : own.map (·.2) = vs) (hc : X.calm = true) (hN : X.N.Nodup) (ok : BlkOk X.N X.env.scope scope own) (hi : SndI X tg it mi) (hg : ∀ s Hh C cl fp, SndGw (X.blk s Hh scope (compEnvC scope cl C X.env) fp) vs tg g) (ht : ∀ s Hh C cl fp, SndTs (X.blk s Hh scope (compEnvC scope cl C X.env) fp) ifs mt) (he : ∀ s Hh C cl fp, Snd (X.blk s Hh scope (compEnvC scope cl C X.env) fp) elt me)
    (hsw : swapsWith (.ListComp elt [⟨tg, it, ifs, 0⟩] scope pos) (some (.Name y py)) spos.line X.env = pure true) (hy : X.N[i]? = some y := by rfl) (hyl : X.env.scope.names.lookup y = some .local := by rfl) (hs : ∀ x, foldedSetIterable it X.env x = pure x := by intro _; rfl) : SndS X (.Assign [.Name y py] (.ListComp elt [⟨tg, it, ifs, 0⟩] scope pos) spos) (sOwn i (lComp vs mi g mt me)) := fun {π N0 H0 N H σ ρ De} I h =>
  ⟨_, ps_setLc (g := bG X scope tg) (tt := bT X scope ifs) (te := bE X scope elt) hc hN hy hyl hsw pi_wp ok (fun s H C cl fp => ⟨fun pins s' σ H' v u Q I r h => pg_wp.run pins s' σ H' v u Q I r (h s H C cl fp)⟩) (fun s H C cl fp => ⟨fun pins s' σ H' Q I h => pts_wp.run pins s' σ H' Q I (h s H C cl fp)⟩)
    (fun s H C cl fp => ⟨fun pins s' σ H' Q I h => pe_wp.run pins s' σ H' Q I (h s H C cl fp)⟩) hs, by
    rw [hv]
    exact lc_run (Q := fun x H1 => De.nx (σ.set i (some x)) H1) hi hg ht he I (T.all_mono (fun ds hd => by intro l vs H2 e2 hl h2 r; exact hd _ _ _ (I.newAny e2 hl (by rw [h2]; exact fun z => by cases z) (.inl ⟨vs, ds, rfl, h2, r⟩))) (T.all_bind.mp h))⟩
/-! two or three names at once -/
def sPar (i j : Nat) (ma mb : Rho → T D) : Rho → T Out := fun ρ => (ma ρ).bind fun x => (mb ρ).bind fun y => .ret (.nx ((ρ.set i (.val x)).set j (.val y)))
def sPar3 (i j l : Nat) (ma mb mc : Rho → T D) : Rho → T Out := fun ρ => (ma ρ).bind fun x => (mb ρ).bind fun y => (mc ρ).bind fun z => .ret (.nx (((ρ.set i (.val x)).set j (.val y)).set l (.val z)))
theorem ss_par {i j : Nat} {x y : Str} {px py pt : Pos} {kt k2 pt2} (hc : X.calm = true) (hN : X.N.Nodup) (ha : Snd X a ma) (hb : Snd X b mb) (hij : i ≠ j := by decide) (hi : X.N[i]? = some x := by rfl) (hj : X.N[j]? = some y := by rfl)
    (hx : X.env.scope.names.lookup x = some .local := by rfl) (hy : X.env.scope.names.lookup y = some .local := by rfl)
    (hw : swappedStores [.Tuple [.Name x px, .Name y py] kt pt] (.Tuple [a, b] k2 pt2) X.env = pure (some [x, y]) := by rfl)
    (hs : swapsWithSole [.Tuple [.Name x px, .Name y py] kt pt] (.Tuple [a, b] k2 pt2) pos.line X.env = pure false := by rfl) (he : starEach [a, b] X.env = (false, eval a X.env) :: starEach [b] X.env := by rfl) (he2 : starEach [b] X.env = (false, eval b X.env) :: starEach [] X.env := by rfl) :
    SndS X (.Assign [.Tuple [.Name x px, .Name y py] kt pt] (.Tuple [a, b] k2 pt2) pos) (sPar i j ma mb) := fun {π N0 H0 N H σ ρ De} I h => ⟨_, ps_par hc hN hi hj hij hx hy (pa_cons pe_wp (pa_cons pe_wp pa_nil he2) he) hw hs, by
  refine ha I (T.all_mono (fun d hd => ?_) (T.all_bind.mp h))
  intro v H1 e1 r1
  refine hb (I.ext e1) (T.all_mono (fun d2 hd => ?_) (T.all_bind.mp hd))
  intro u H2 e2 r2
  exact ⟨v, u, rfl, hd _ _ _ ((((I.ext e1).ext e2).set (r1.mono e2.kp.hide)).set r2)⟩⟩
theorem ss_par3 {i j l : Nat} {x y z : Str} {px py pz pt : Pos} {kt k2 pt2} {mc : Rho → T D} (hc : X.calm = true) (hN : X.N.Nodup) (ha : Snd X a ma) (hb : Snd X b mb) (hcc : Snd X c mc) (hij : i ≠ j := by decide) (hil : i ≠ l := by decide) (hjl : j ≠ l := by decide) (hi : X.N[i]? = some x := by rfl) (hj : X.N[j]? = some y := by rfl) (hl : X.N[l]? = some z := by rfl)
    (hx : X.env.scope.names.lookup x = some .local := by rfl) (hy : X.env.scope.names.lookup y = some .local := by rfl) (hz : X.env.scope.names.lookup z = some .local := by rfl)
    (hw : swappedStores [.Tuple [.Name x px, .Name y py, .Name z pz] kt pt] (.Tuple [a, b, c] k2 pt2) X.env = pure (some [x, y, z]) := by rfl)
    (hs : swapsWithSole [.Tuple [.Name x px, .Name y py, .Name z pz] kt pt] (.Tuple [a, b, c] k2 pt2) pos.line X.env = pure false := by rfl) (he : starEach [a, b, c] X.env = (false, eval a X.env) :: starEach [b, c] X.env := by rfl) (he2 : starEach [b, c] X.env = (false, eval b X.env) :: starEach [c] X.env := by rfl) (he3 : starEach [c] X.env = (false, eval c X.env) :: starEach [] X.env := by rfl) :
    SndS X (.Assign [.Tuple [.Name x px, .Name y py, .Name z pz] kt pt] (.Tuple [a, b, c] k2 pt2) pos) (sPar3 i j l ma mb mc) := fun {π N0 H0 N H σ ρ De} I h => ⟨_, ps_par3 hc hN hi hj hl hij hil hjl hx hy hz (pa_cons pe_wp (pa_cons pe_wp (pa_cons pe_wp pa_nil he3) he2) he) hw hs, by
  refine ha I (T.all_mono (fun d hd => ?_) (T.all_bind.mp h))
  intro v H1 e1 r1
  refine hb (I.ext e1) (T.all_mono (fun d2 hd => ?_) (T.all_bind.mp hd))
  intro u H2 e2 r2
  refine hcc ((I.ext e1).ext e2) (T.all_mono (fun d3 hd => ?_) (T.all_bind.mp hd))
  intro t H3 e3 r3
  exact ⟨v, u, t, rfl, hd _ _ _ (((((I.ext e1).ext e2).ext e3).set (r1.mono (e2.trans e3).kp.hide)).set (r2.mono e3.kp.hide) |>.set r3)⟩⟩
/-! unary minus -/
def uNeg : D → T D
  | .int i => .ret (.int (-i))
  | _ => .fail
def eUn (f : D → T D) (ma : Rho → T D) : Rho → T D := fun ρ => (ma ρ).bind f
theorem s_neg (ha : Snd X a ma) : Snd X (.UnaryOp .USub a pos) (eUn uNeg ma) := fun {π N0 H0 N H σ ρ Q} I h => ⟨_, pe_un un_neg pe_wp, ha I (T.all_mono (fun d hd => by
  intro v H2 e2 r
  cases d with
  | int i => cases r; exact ⟨_, rfl, hd _ _ e2 (.int _)⟩
  | _ => exact False.elim hd) (T.all_bind.mp h))⟩
/-! f(k = v, ..) -/
def SndK (X : Cx) (kws : List Keyword) (ms : Rho → T (List D)) : Prop := ∀ ⦃π : Addr⦄ ⦃N0 : Addr → Bool⦄ ⦃H0 : Hp⦄ ⦃N : Addr → Bool⦄ ⦃H : Hp⦄ ⦃σ : L2.St⦄ ⦃ρ : Rho⦄ ⦃Q : List V → Hp → Prop⦄, EnvOk X.K X.prog X.w π N0 H0 N H σ ρ → (ms ρ).all (Ka X π N H Q) → ∃ t, PK X kws t ∧ t σ H Q
theorem sk_nil : SndK X [] aNil := fun {_ _ _ _ _ _ _ _} I h => ⟨_, pk_nil, h _ _ (Ex.refl I.hn.pot) .nil⟩
def wpK (X : Cx) (kws : List Keyword) : TA := fun σ H Q => ∃ t, PK X kws t ∧ t σ H Q
theorem pk_wp {kws : List Keyword} : PK X kws (wpK X kws) := ⟨fun pos pins s σ H Q I ⟨_, h, q⟩ => h.run pos pins s σ H Q I q⟩
theorem sk_cons {kws : List Keyword} {nm : Option Str} {kpos : Pos} {ms : Rho → T (List D)} (ha : Snd X e m) (hr : SndK X kws ms) : SndK X (⟨nm, e, kpos⟩ :: kws) (aCons m ms) := fun {_ _ _ _ _ _ _ _} I h =>
  ⟨_, pk_cons pe_wp pk_wp, by
    refine ha I (T.all_mono (fun dx hx => ?_) (T.all_bind.mp h))
    intro v H1 e1 r1
    refine hr (I.ext e1) (T.all_mono (fun dy hy => ?_) (T.all_bind.mp hx))
    intro vs H2 e2 r2
    exact hy _ _ (e1.trans e2) (.cons (r1.mono e2.kp.hide) r2)⟩
end
end Pd

namespace Pd
open PySem L2
section
variable {X : Cx} {pos : Pos}
theorem s_globI {x : Str} {v : Int} (h : ∃ t, X.mg x = some (.int v t)) (hg : Gl X x := by rfl) (hd : (x == ("__debug__" : Str)) = false := by decide) : Snd X (.Name x pos) (eC (.int v)) := fun {_ _ _ _ _ _ _ _} I q => by
  obtain ⟨t, h⟩ := h
  exact ⟨_, pe_glob hg h (v := .int v) ⟨t, rfl⟩ hd, q _ _ (Ex.refl I.hn.pot) (.int v)⟩
/-! isinstance -/
inductive Ty5 where
  | int | bool | str | tuple | list | non
def Ty5.nm : Ty5 → String
  | .int => "int"
  | .bool => "bool"
  | .str => "str"
  | .tuple => "tuple"
  | .list => "list"
  | .non => "NoneType"
def Ty5.sub : Ty5 → Ty5 → Bool
  | .int, .int => true
  | .bool, .bool => true
  | .bool, .int => true
  | .str, .str => true
  | .tuple, .tuple => true
  | .list, .list => true
  | .non, .non => true
  | _, _ => false
theorem kitB_sub (a b : Ty5) : kitB a.nm b.nm = some (Ty5.sub a b) := by
  cases a <;> cases b <;> decide +kernel
def tyD : D → Option Ty5
  | .non => some .non
  | .bl _ => some .bool
  | .int _ => some .int
  | .str _ => some .str
  | .tup _ => some .tuple
  | .lst _ => some .list
  | .dic _ => none
  | .pot => none
  | .ins _ _ => none
def isD (k : Ty5) (d : D) : T D := match tyD d with
  | some t => .ret (.bl (Ty5.sub t k))
  | none => .fail
theorem ty_of {K : PySem.W.Frag} {P : Program} {w : World} {π : Addr} {N : Addr → Bool} {H : Hp} {v : V} {d : D} {t : Ty5} (r : Rv K P w π (Hide N H) v d) (h : tyD d = some t) : TyX K H v (.type t.nm) := by
  cases r with
  | non => cases h; exact .base .non
  | bl b => cases h; exact .base (.bl b)
  | int b => cases h; exact .base (.int b)
  | str b => cases h; exact .base (.str b)
  | tup a n r => cases h; exact .base (.tup (hide_some a).2)
  | tupK a r =>
    cases h
    rcases a (fun _ => none) with (z | ⟨o, z⟩) | ⟨o, _, _, z1, z2, _⟩
    · cases z
    · cases z
    · exact .kTuple z1 z2
  | lst a n r => cases h; exact .base (.lst (hide_some a).2)
  | dic a n r => cases h
  | pot => cases h
  | ins _ _ _ _ => cases h
theorem s_isinst {e : Expr} {m : Rho → T D} {k : Ty5} {ty : Str} {p p2 : Pos} (hm : X.mg "isinstance" = none) (hmt : X.mg ty = none) (hb : bootBuiltins ty = some (.type k.nm)) (ha : Snd X e m) (hg : Gl X "isinstance" := by rfl) (hgt : Gl X ty := by rfl) (hbi : bootBuiltins "isinstance" = some (.builtin "isinstance") := by decide +kernel) (hn : ty ≠ "__name__" := by decide) (hd : (ty == ("__debug__" : Str)) = false := by decide)
    (he : starEach [e, .Name ty p] X.env = (false, eval e X.env) :: starEach [.Name ty p] X.env := by rfl) (he2 : starEach [.Name ty p] X.env = (false, eval (.Name ty p) X.env) :: starEach [] X.env := by rfl) (hpl : (backTo pos (starEach [.Name ty p] X.env)).any (·.1) = false := by rfl) :
    Snd X (.Call (.Name "isinstance" p2) [e, .Name ty p] [] pos) (eUn (isD k) m) := fun {π N0 H0 N H σ ρ Q} I h =>
  ⟨_, pe_callB call_isi hg hm hbi (pa_cons pe_wp (pa_cons (pe_bltn (v := .ty k.nm) hgt hmt hb rfl hn hd) pa_nil he2) he) (by decide) (by decide) he hpl, ha I (T.all_mono (fun d hd => by
    intro v H2 e2 r
    unfold isD at hd
    cases c : tyD d with
    | none => rw [c] at hd; exact False.elim hd
    | some t =>
      rw [c] at hd
      exact ⟨v, .ty k.nm, .type t.nm, .type k.nm, Ty5.sub t k, rfl, .ty _, ty_of r c, kit_ty (kitB_sub t k), hd _ _ e2 (.bl _)⟩) (T.all_bind.mp h))⟩
end
end Pd

/-! Dicts with nested keys. -/
namespace Pd
open PySem L2

section
variable {X : Cx} {π : Addr} {N : Addr → Bool} {H : Hp} {pins : List (Addr × Obj)} {σ : L2.St} {s : Shared}
mutual
theorem Rv.nested (I : Inv X pins σ H s) : ∀ {d : D} {v : V} {k : NestedKey} {u : Value}, Rv X.K X.prog X.w π (Hide N H) v d → d.nk = some k → RelV v u → NestedIs s.heap k u
  | _, _, _, _, .non, h, r => by cases h; cases r; exact .none
  | _, _, _, _, .bl b, h, r => by cases h; cases r; exact .bool rfl
  | _, _, _, _, .int i, h, r => by cases h; obtain ⟨t, rfl⟩ := r; exact .int i t
  | _, _, _, _, .str x, h, r => by cases h; obtain ⟨t, rfl⟩ := r; exact .text x t
  | .tup ds, _, k, _, .tup a n q, h, r => by
    unfold D.nk at h
    cases e : D.nks ds with
    | none => rw [e] at h; cases h
    | some ks =>
      rw [e] at h; cases h; cases r
      obtain ⟨its, rv, ⟨o, ho, hc, m, hd⟩, _⟩ := I.tuple (.inl (.inl (hide_some a).2))
      exact .tup ho hc hd (RvL.nested I q e (by simpa using rv))
  | .tup ds, _, k, _, .tupK a q, h, r => by
    unfold D.nk at h
    cases e : D.nks ds with
    | none => rw [e] at h; cases h
    | some ks =>
      rw [e] at h; cases h; cases r
      obtain ⟨its, rv, ⟨o, ho, hc, m, hd⟩, _⟩ := I.tuple (a H)
      exact .tup ho hc hd (RvL.nested I q e (by simpa using rv))
  | .lst _, _, _, _, _, h, _ => by unfold D.nk at h; cases h
  | .dic _, _, _, _, _, h, _ => by unfold D.nk at h; cases h
  | .pot, _, _, _, _, h, _ => by unfold D.nk at h; cases h
  | .ins _ _, _, _, _, _, h, _ => by unfold D.nk at h; cases h
theorem RvL.nested (I : Inv X pins σ H s) : ∀ {ds : List D} {vs : List V} {ks : List NestedKey} {us : List Value}, RvL X.K X.prog X.w π (Hide N H) vs ds → D.nks ds = some ks → Vals vs us → NestedAll s.heap ks us
  | _, _, _, _, .nil, h, r => by unfold D.nks at h; cases h; cases r; exact .nil
  | d :: ds, _, ks, _, .cons q t, h, r => by
    unfold D.nks at h
    cases e : D.nk d with
    | none => rw [e] at h; cases h
    | some k =>
      rw [e] at h
      cases e2 : D.nks ds with
      | none => rw [e2] at h; cases h
      | some ks' =>
        rw [e2] at h; cases h
        cases r with
        | cons r1 r2 => exact .cons (Rv.nested I q e r1) (RvL.nested I t e2 r2)
end
end

/-! ### entries by keys -/
def putX {α : Type} : List (NestedKey × Addr × α) → NestedKey → Addr → α → List (NestedKey × Addr × α)
  | [], k, a, v => [(k, a, v)]
  | x :: r, k, a, v => if x.1 = k then (x.1, x.2.1, v) :: r else x :: putX r k a v
def valX : List (NestedKey × Addr × V) → NestedKey → Option V
  | [], _ => none
  | x :: r, k => if x.1 = k then some x.2.2 else valX r k
theorem stored_rec {k : NestedKey} {a : Addr} {v : Value} : ∀ {ys : List (NestedKey × Addr × Value)}, (ys.map (·.1)).Nodup → storedH ys k a v = putX ys k a v
  | [], _ => by simp [storedH, atKey, putX]
  | y :: r, hn => by
    rw [List.map_cons, List.nodup_cons] at hn
    by_cases e : y.1 = k
    · have at' : (atKey (y :: r) k).isSome = true := by simp [atKey, e]
      unfold storedH putX
      rw [if_pos at', if_pos e, List.map_cons]
      congr 1
      · unfold putAt; rw [if_pos e]
      · refine (List.map_congr_left (g := id) fun x hx => ?_).trans (List.map_id r)
        unfold putAt
        rw [if_neg (fun z => hn.1 (by rw [e, ← z]; exact List.mem_map_of_mem hx))]
        rfl
    · have ih := stored_rec (k := k) (a := a) (v := v) hn.2
      unfold putX
      rw [if_neg e, ← ih]
      have at' : atKey (y :: r) k = atKey r k := by simp [atKey, e]
      unfold storedH
      rw [at']
      split
      · rw [List.map_cons]; congr 1; unfold putAt; rw [if_neg e]
      · rfl

def hasK (k : NestedKey) (d : D) : Bool := match d.nk with
  | some k' => NestedKey.beq k' k
  | none => false
def dAt : List (D × D) → NestedKey → Option D
  | [], _ => none
  | x :: r, k => cond (hasK k x.1) (some x.2) (dAt r k)
def dPut : List (D × D) → NestedKey → D → D → List (D × D)
  | [], _, dk, dv => [(dk, dv)]
  | x :: r, k, dk, dv => cond (hasK k x.1) ((x.1, dv) :: r) (x :: dPut r k dk dv)
theorem hasK_eq {k k' : NestedKey} {d : D} (h : d.nk = some k') : hasK k d = decide (k' = k) := by
  unfold hasK
  rw [h, NestedKey.decide_eq]

abbrev PX : List (NestedKey × Addr × V) → List (NestedKey × Addr × Value) → Prop := Paired fun p q => p.1 = q.1 ∧ p.2.1 = q.2.1 ∧ RelV p.2.2 q.2.2
theorem PX.val {k : NestedKey} {xs : List (NestedKey × Addr × V)} {ys : List (NestedKey × Addr × Value)} (r : PX xs ys) : RelO (valX xs k) ((atKey ys k).map (·.2)) := by
  induction r with
  | nil => exact True.intro
  | @cons p q ps qs h t ih =>
    obtain ⟨h1, h2, h3⟩ := h
    by_cases e : p.1 = k
    · have e2 : q.1 = k := by rw [← h1]; exact e
      simp only [valX, atKey, e, e2, if_true, List.find?_cons, decide_true, Option.map_some]
      exact h3
    · have e2 : ¬ q.1 = k := by rw [← h1]; exact e
      have z : atKey (q :: qs) k = atKey qs k := by simp [atKey, e2]
      rw [z]
      simp only [valX, if_neg e]
      exact ih
theorem PX.put {k : NestedKey} {a : Addr} {v : V} {u : Value} (rv : RelV v u) {xs : List (NestedKey × Addr × V)} {ys : List (NestedKey × Addr × Value)} (r : PX xs ys) : PX (putX xs k a v) (putX ys k a u) := by
  induction r with
  | nil => exact .cons ⟨rfl, rfl, rv⟩ .nil
  | @cons p q ps qs h t ih =>
    by_cases e : p.1 = k
    · have e2 : q.1 = k := by rw [← h.1]; exact e
      unfold putX
      rw [if_pos e, if_pos e2]
      exact .cons ⟨h.1, h.2.1, rv⟩ t
    · have e2 : ¬ q.1 = k := by rw [← h.1]; exact e
      unfold putX
      rw [if_neg e, if_neg e2]
      exact .cons h ih
theorem PX.keys {xs : List (NestedKey × Addr × V)} {ys : List (NestedKey × Addr × Value)} (r : PX xs ys) : xs.map (·.1) = ys.map (·.1) := by
  induction r with
  | nil => rfl
  | cons h t ih => rw [List.map_cons, List.map_cons, h.1, ih]
theorem putX_len {α : Type} {k : NestedKey} {a : Addr} {v : α} : ∀ {xs : List (NestedKey × Addr × α)}, (putX xs k a v).length ≤ xs.length + 1
  | [] => Nat.le_refl _
  | x :: r => by
    unfold putX
    split
    · simp
    · have := putX_len (k := k) (a := a) (v := v) (xs := r)
      simp; exact this
section
variable {K : PySem.W.Frag} {P : Program} {w : World} {π : Addr} {H : Hp}
theorem RvD.length : ∀ {kvs : List (D × D)} {xs : List (NestedKey × Addr × V)}, RvD K P w π H xs kvs → xs.length = kvs.length
  | _, _, .nil => rfl
  | _, _, .cons _ _ _ _ t => congrArg Nat.succ (RvD.length t)
theorem RvD.val {k : NestedKey} : ∀ {kvs : List (D × D)} {xs : List (NestedKey × Addr × V)}, RvD K P w π H xs kvs → match dAt kvs k with
    | some d => ∃ v, valX xs k = some v ∧ Rv K P w π H v d
    | none => valX xs k = none
  | _, _, .nil => rfl
  | _, _, .cons (k := k') (dk := dk) e dp rk r t => by
    have ih := RvD.val (k := k) t
    unfold dAt valX
    rw [hasK_eq e]
    by_cases q : k' = k
    · simp only [q, decide_true, cond_true, if_true]
      exact ⟨_, rfl, r⟩
    · simp only [q, decide_false, cond_false, if_false]
      exact ih
theorem RvD.put {k : NestedKey} {a : Addr} {v : V} {dk dv : D} (e : dk.nk = some k) (dp : k.depth ≤ 8) (rk : Rv K P w π H (.ref a) dk) (rv : Rv K P w π H v dv) : ∀ {kvs : List (D × D)} {xs : List (NestedKey × Addr × V)}, RvD K P w π H xs kvs → RvD K P w π H (putX xs k a v) (dPut kvs k dk dv)
  | _, _, .nil => .cons e dp rk rv .nil
  | _, _, .cons (k := k') e' dp' rk' r t => by
    have ih := RvD.put e dp rk rv t
    unfold putX dPut
    rw [hasK_eq e']
    by_cases q : k' = k
    · simp only [q, decide_true, cond_true, if_true]
      subst q
      exact .cons e' dp' rk' rv t
    · simp only [q, decide_false, cond_false, if_false]
      exact .cons e' dp' rk' r ih
theorem RvD.get : ∀ {kvs : List (D × D)} {xs : List (NestedKey × Addr × V)} {i : Nat} {p : D × D}, RvD K P w π H xs kvs → kvs[i]? = some p → ∃ k a v, xs[i]? = some (k, a, v) ∧ Rv K P w π H (.ref a) p.1 ∧ Rv K P w π H v p.2
  | _, _, _, _, .nil, e => by simp at e
  | _, _, 0, _, .cons _ _ rk r _, e => by simp at e; subst e; exact ⟨_, _, _, rfl, rk, r⟩
  | _, _, i + 1, _, .cons _ _ _ _ t, e => RvD.get (i := i) t e
end

section
variable {X : Cx} {π : Addr} {N : Addr → Bool} {H : Hp} {pins : List (Addr × Obj)} {σ : L2.St} {s : Shared}
/-- the entries' keys are keys -/
theorem RvD.keys (I : Inv X pins σ H s) : ∀ {kvs : List (D × D)} {xs : List (NestedKey × Addr × V)} {ys : List (NestedKey × Addr × Value)}, RvD X.K X.prog X.w π (Hide N H) xs kvs → PX xs ys → ∀ y ∈ ys, (nestedKind X.prog X.w).is s.heap y.1 y.2.1
  | _, _, _, .nil, .nil => fun _ h => nomatch h
  | _, _, _, .cons e dp rk r t, .cons h p => fun y hy => by
    rcases List.mem_cons.mp hy with z | z
    · subst z
      have h1 : _ = y.1 := h.1
      have h2 : _ = y.2.1 := h.2.1
      rw [← h1, ← h2]
      exact ⟨Rv.nested I rk e rfl, dp⟩
    · exact RvD.keys I t p y z
def KeyAt (X : Cx) (H : Hp) (b : Addr) (k : NestedKey) : Prop := k.depth ≤ 8 ∧ ∃ (π : Addr) (N : Addr → Bool) (d : D), Rv X.K X.prog X.w π (Hide N H) (.ref b) d ∧ d.nk = some k
def EntAt (X : Cx) (H : Hp) (xs : List (NestedKey × Addr × V)) : Prop := ∃ (π : Addr) (N : Addr → Bool) (kvs : List (D × D)), RvD X.K X.prog X.w π (Hide N H) xs kvs
theorem KeyAt.is (I : Inv X pins σ H s) {b : Addr} {k : NestedKey} (h : KeyAt X H b k) : (nestedKind X.prog X.w).is s.heap k b := let ⟨dp, _, _, _, r, e⟩ := h; ⟨Rv.nested I r e rfl, dp⟩
theorem dn_of (I : Inv X pins σ H s) {a : Addr} {xs : List (NestedKey × Addr × V)} (h : Rd H a (DN X.prog X.w a xs)) (en : EntAt X H xs) : (a == sysModules) = false ∧ xs.length ≤ sizeLine ∧ ∃ ys, PX xs ys ∧ s.heap.DictOfH (nestedKind X.prog X.w) a ys := by
  obtain ⟨π, N, kvs, rd⟩ := en
  have ok : ObjOk X.prog X.w H s.heap a (DN X.prog X.w a xs) := rd_of I.hok h
  obtain ⟨⟨h1, h2, h3, ys, pr, o, es, ep, ho, hc, hd, he⟩, _⟩ := ok
  exact ⟨h1, h2, ys, pr, o, es, ep, ho, hc, hd, he, RvD.keys I rd pr, by rw [← PX.keys pr]; exact h3⟩
theorem dn_ok {P : Program} {w : World} {H' : Hp} {h : Heap} {a : Addr} {xs : List (NestedKey × Addr × V)} {ys : List (NestedKey × Addr × Value)} (h1 : (a == sysModules) = false) (h2 : xs.length ≤ sizeLine) (pr : PX xs ys) (dd : h.DictOfH (nestedKind P w) a ys) : ObjOk P w H' h a (DN P w a xs) := by
  obtain ⟨o, es, ep, ho, hc, hd, he, _, hn⟩ := dd
  refine ⟨⟨h1, h2, by rw [PX.keys pr]; exact hn, ys, pr, o, es, ep, ho, hc, hd, he⟩, ⟨o, ho⟩, fun g1 g2 hg k => ?_⟩
  obtain ⟨x1, x2, x3, ys, pr, o, es, ep, ho, r⟩ := hg
  exact ⟨x1, x2, x3, ys, pr, o, es, ep, k _ ho, r⟩
/-- d[k] -/
theorem dn_getItem {A : Around} {E : Value → Shared → Prop} {a b : Addr} {xs : List (NestedKey × Addr × V)} {k : NestedKey} {v : V} {Q : Value → Shared → Prop} (hu : A.units + 64 < cLine) (I : Inv X pins σ H s) (h : Rd H a (DN X.prog X.w a xs)) (en : EntAt X H xs) (kk : KeyAt X H b k) (hv : valX xs k = some v)
    (hq : ∀ w' s', Inv X pins σ H s' → RelV v w' → Q w' s') : wpAny (model X.prog X.w) A (getItem (.ref a) (.ref b)) Q E s := by
  obtain ⟨h1, h2, ys, pr, dd⟩ := dn_of I h en
  obtain ⟨w', hw, rw'⟩ := RelO.some_of (v := v) (o := (atKey ys k).map (·.2)) (by rw [← hv]; exact pr.val)
  obtain ⟨p, hp, hp2⟩ := Option.map_eq_some_iff.mp hw
  refine wpAny_getItem_heap (knd := nestedKind X.prog X.w) (by show A.in1.units + 8 < cLine; rw [Around.in1_units]; omega) (kk.is I) dd hp ?_
  rw [hp2]
  exact hq w' _ (I.tok _) rw'
/-- d.get(k, x) -/
theorem dn_get2 {A : Around} {E : Value → Shared → Prop} {a b : Addr} {xs : List (NestedKey × Addr × V)} {k : NestedKey} {z : V} {r : Value} {Q : Value → Shared → Prop} (hu : A.units + 64 < cLine) (I : Inv X pins σ H s) (h : Rd H a (DN X.prog X.w a xs)) (en : EntAt X H xs) (kk : KeyAt X H b k) (rz : RelV z r)
    (hq : ∀ w' s', Inv X pins σ H s' → RelV ((valX xs k).getD z) w' → Q w' s') : wpAny (model X.prog X.w) A (call (.builtin "dict.get") [.ref a, .ref b, r]) Q E s := by
  obtain ⟨h1, h2, ys, pr, dd⟩ := dn_of I h en
  refine call_meetsIn PySem.F.slot_dict_get dd.typeIs PySem.F.entry_dict_get (PySem.F.args_dict_get_3 _ _ _) (meetsH_dict_get_default (nestedKind X.prog X.w) a b h1 r) ⟨by show A.in1.units + 8 < cLine; rw [Around.in1_units]; omega, k, ys, kk.is I, dd, hq _ _ (I.tok _) ?_⟩
  exact (pr.val (k := k)).getD rz
/-- d[k] = v -/
theorem dn_setItem {A : Around} {E : Value → Shared → Prop} {a b : Addr} {xs : List (NestedKey × Addr × V)} {k : NestedKey} {v : V} {r : Value} {Q : Unit → Shared → Prop} (hu : A.units + 64 < cLine) (I : Inv X pins σ H s) (h : H a = some (DN X.prog X.w a xs)) (en : EntAt X H xs) (kk : KeyAt X H b k) (hz : xs.length < sizeLine) (rv : RelV v r)
    (hq : ∀ s', Inv X pins σ (upd H a (DN X.prog X.w a (putX xs k b v))) s' → Q () s') : wpAny (model X.prog X.w) A (setItem (.ref a) (.ref b) r) Q E s := by
  obtain ⟨h1, h2, ys, pr, dd⟩ := dn_of I (.inl h) en
  have hl : ys.length = xs.length := (Paired.length pr).symm
  have hn : (ys.map (·.1)).Nodup := by obtain ⟨_, _, _, _, _, _, _, _, q⟩ := dd; exact q
  refine wpAny_setItem_heap (knd := nestedKind X.prog X.w) (hsz := by rw [hl]; exact h2) (by show A.in1.units + 8 < cLine; rw [Around.in1_units]; omega) (kk.is I) dd fun h' dd' hs => hq _ ?_
  have he : ∃ q, h'.get? a = some q := let ⟨q, _, _, e, _⟩ := dd'; ⟨q, e⟩
  rw [stored_rec hn] at dd'
  refine d_write I (by rw [h]; exact True.intro) hs he (dn_ok h1 ?_ (pr.put rv) dd')
  have := putX_len (k := k) (a := b) (v := v) (xs := xs)
  omega
end
end Pd

/-! Dicts with nested keys: the rules. -/
namespace Pd
open PySem L2

theorem dn_empty {P : Program} {w : World} {H : Hp} (h : Heap) (hb : sysModules < h.objs.size) : ObjOk P w H (h.push { cls := .type "dict", data := .dict #[] }) h.objs.size (DN P w h.objs.size []) :=
  dn_ok (beq_eq_false_iff_ne.mpr (Ne.symm (Nat.ne_of_lt hb))) (Nat.zero_le _) .nil (Heap.DictOfH.new h)
section
variable {X : Cx} {π : Addr} {N0 N : Addr → Bool} {H0 H : Hp} {pins : List (Addr × Obj)} {σ : L2.St} {ρ : Rho} {s : Shared} {pos : Pos} {a b ke ve e f : Expr} {m mk mv ma mb : Rho → T D}
theorem pe_dnewN : PE X (.Dict [] [] pos) (fun _ H Q => ∀ p, H p = none → Q (.ref p) (upd H p (DN X.prog X.w p []))) := ⟨fun pins s σ H Q I h =>
  wpAny_Dict_empty ⟨.ref s.heap.objs.size, _, I.laid (a := s.heap.objs.size) (o := DN X.prog X.w s.heap.objs.size []) (t' := s.toks) (fun _ _ q => Heap.get?_push_of_some _ q) (Nat.le_refl _) (dn_empty s.heap I.big), rfl, h _ (I.hok.fresh (Nat.le_refl _))⟩⟩
def sOwnD (i : Nat) : Rho → T Out := fun ρ => .ret (.nx (ρ.set i (.ownD [])))
theorem ss_ownD {i : Nat} {x : Str} {pos' pd : Pos} (hN : X.N.Nodup) (hi : X.N[i]? = some x := by rfl) (hx : Loc X.env.scope x := by first | exact .inl rfl | exact .inr rfl) (hs : swapsWith (.Dict [] [] pd) (some (.Name x pos')) pos.line X.env = pure false := by rfl) (hf : X.fn x = true ∨ X.env.scope.names.lookup x = some .local := by first | exact .inl rfl | exact .inr rfl) :
    SndS X (.Assign [.Name x pos'] (.Dict [] [] pd) pos) (sOwnD i) := fun {π N0 H0 N H σ ρ De} I h => ⟨_, ps_set hN hi hx pe_dnewN hs hf, fun p hp => by
  have e := Ex.new (o := DN X.prog X.w p []) I.hn.pot hp
  exact h _ _ _ (I.newAny e hp (by rw [upd_same]; exact fun z => by cases z) (.inr ⟨[], [], rfl, upd_same, .nil⟩))⟩

/-- a key's data -/
def keyD (d : D) : Option NestedKey := match d with
  | .tup ds => match D.nk (.tup ds) with
    | some k => cond (decide (k.depth ≤ 8)) (some k) none
    | none => none
  | _ => none
theorem keyD_of {d : D} {k : NestedKey} (h : keyD d = some k) : ∃ ds, d = .tup ds ∧ d.nk = some k ∧ k.depth ≤ 8 := by
  unfold keyD at h
  split at h
  · rename_i ds
    split at h
    · rename_i k' e
      cases c : decide (k'.depth ≤ 8) with
      | true => rw [c] at h; cases h; exact ⟨ds, rfl, e, of_decide_eq_true c⟩
      | false => rw [c] at h; cases h
    · cases h
  · cases h
def withKey {α : Type} (d : D) (f : NestedKey → T α) : T α := match keyD d with
  | some k => f k
  | none => .fail
theorem withKey_all {α : Type} {P : α → Prop} {d : D} {f : NestedKey → T α} (h : (withKey d f).all P) : ∃ ds k, d = .tup ds ∧ d.nk = some k ∧ k.depth ≤ 8 ∧ (f k).all P := by
  unfold withKey at h
  split at h
  · obtain ⟨ds, e, e2, dp⟩ := keyD_of (by assumption)
    exact ⟨ds, _, e, e2, dp, h⟩
  · exact False.elim h
def sPut (i : Nat) (mk mv : Rho → T D) : Rho → T Out := fun ρ => match ρ[i]? with
  | some (.ownD kvs) => (mv ρ).bind fun dv => (mk ρ).bind fun dk => withKey dk fun k => cond (decide (kvs.length ≤ 100000)) (.ret (.nx (ρ.set i (.ownD (dPut kvs k dk dv))))) .fail
  | _ => .fail
theorem ps_putN {i : Nat} {x : Str} {p pos' : Pos} (hu : X.A.units + 64 < cLine) (hN : X.N[i]? = some x) (hv : Vis X.env.scope x) (hd : (x == ("__debug__" : Str)) = false) (hcd : (x == ("__classdict__" : Str)) = false) (hs : swapsWith ve (some (.Subscript (.Name x p) ke pos')) pos.line X.env = pure false) :
    PS X (.Assign [.Subscript (.Name x p) ke pos'] ve pos) (fun De σ H => wpE X ve σ H fun v H1 => ∃ l, σ[i]? = some (some (.ref l)) ∧ wpE X ke σ H1 fun y H2 => ∃ b xs k, y = .ref b ∧ H2 l = some (DN X.prog X.w l xs) ∧ EntAt X H2 xs ∧ KeyAt X H2 b k ∧ xs.length < sizeLine ∧ De.nx σ (upd H2 l (DN X.prog X.w l (putX xs k b v)))) := by
  refine ⟨fun pins s σ H D I h => ?_⟩
  refine wpAny_Assign_Subscript (thn (pe_wp.run pins s σ H _ I h) fun r s1 ⟨v, H1, I1, rv, l, hl, q1⟩ => thn ((pe_var hN hv hd hcd).run pins s1 σ H1 (fun x H2 => x = .ref l ∧ H2 = H1) I1 ⟨_, hl, rfl, rfl⟩) fun u s2 ⟨x, H2, I2, rx, ex, eH⟩ => ?_) hs
  subst ex eH
  refine thn (pe_wp.run pins s2 σ H2 _ I2 q1) fun iv s3 ⟨y, H3, I3, ry, b, xs, k, ey, hd, en, kk, hz, q3⟩ => ?_
  subst ey
  obtain rfl : u = Value.ref l := rx
  obtain rfl : iv = Value.ref b := ry
  exact dn_setItem hu I3 hd en kk hz rv fun s4 I4 => ⟨σ, _, I4, q3⟩
theorem ss_put (i : Nat) {x : Str} {p pos' : Pos} (hu : X.A.units + 64 < cLine) (hve : Snd X ve mv) (hke : Snd X ke mk) (hN : X.N[i]? = some x := by rfl) (hv : Vis X.env.scope x := by first | exact Or.inl rfl | exact Or.inr (Or.inl rfl) | exact Or.inr (Or.inr rfl)) (hd : (x == ("__debug__" : Str)) = false := by decide)
    (hcd : (x == ("__classdict__" : Str)) = false := by decide) (hs : swapsWith ve (some (.Subscript (.Name x p) ke pos')) pos.line X.env = pure false := by rfl) : SndS X (.Assign [.Subscript (.Name x p) ke pos'] ve pos) (sPut i mk mv) := fun {π N0 H0 N H σ ρ De} I h => ⟨_, ps_putN hu hN hv hd hcd hs, by
  unfold sPut at h
  split at h
  · rename_i kvs c
    refine hve I (T.all_mono (fun dv hdv => ?_) (T.all_bind.mp h))
    intro v H1 e1 r1
    have I1 := I.ext e1
    obtain ⟨l, xs, hs1, nl, n0, hl, rl⟩ := I1.dic i kvs c
    refine ⟨l, hs1, hke I1 (T.all_mono (fun dk hdk => ?_) (T.all_bind.mp hdv))⟩
    intro y H2 e2 r2
    obtain ⟨ds, k, rfl, e, dp, hdk⟩ := withKey_all hdk
    obtain ⟨hsm, hdk⟩ := cond_all hdk
    obtain ⟨b, vs, rfl, hb, rb⟩ := id r2.tupE
    have hl2 := e2.kp l _ (N_ne I1.hn nl) hl
    have rl2 := rl.mono e2.kp.hide
    refine ⟨b, xs, k, rfl, hl2, ⟨_, _, _, rl2⟩, ⟨dp, _, _, _, r2, e⟩, ?_, ?_⟩
    · rw [rl.length]
      exact Nat.lt_of_le_of_lt (of_decide_eq_true hsm) (by decide)
    · exact hdk _ _ _ ((I1.ext e2).upAny c rfl hs1 nl n0 (.inr ⟨_, _, rfl, rfl, RvD.put e dp r2 (r1.mono e2.kp.hide) rl2⟩))
  · exact False.elim h⟩
/-! d.get(k, x) of an own dict -/
def getOwn (i : Nat) (mk mx : Rho → T D) : Rho → T D := fun ρ => match ρ[i]? with
  | some (.ownD kvs) => (mk ρ).bind fun dk => (mx ρ).bind fun dx => withKey dk fun k => .ret ((dAt kvs k).getD dx)
  | _ => .fail
theorem dn_noDict {H : Hp} {a : Addr} {xs : List (NestedKey × Addr × V)} (I : Inv X pins σ H s) (h : Rd H a (DN X.prog X.w a xs)) (en : EntAt X H xs) : s.TypeIs (.ref a) "dict" ∧ ∀ b, Value.ref a = .ref b → ∃ ob, s.heap.get? b = some ob ∧ ob.dict = none := by
  obtain ⟨_, _, ys, _, dd⟩ := dn_of I h en
  refine ⟨dd.typeIs, fun b q => ?_⟩
  cases q
  obtain ⟨o, es, ep, ho, hc, _⟩ := dd
  exact ⟨o, ho, hc.2.1⟩
theorem pe_getN {i : Nat} {x : Str} {p apos cpos : Pos} (hu : X.A.units + 64 < cLine) (hN : X.N[i]? = some x) (hv : Vis X.env.scope x) (hd : (x == ("__debug__" : Str)) = false) (hcd : (x == ("__classdict__" : Str)) = false) (m : M2 X (.Name x p) "get" apos e f cpos) :
    PE X (.Call (.Attribute (.Name x p) "get" apos) [e, f] [] cpos) (fun σ H Q => ∃ l xs, σ[i]? = some (some (.ref l)) ∧ Rd H l (DN X.prog X.w l xs) ∧ EntAt X H xs ∧ wpE X e σ H fun y H2 => wpE X f σ H2 fun z H3 => ∃ b k, y = .ref b ∧ Rd H3 l (DN X.prog X.w l xs) ∧ EntAt X H3 xs ∧ KeyAt X H3 b k ∧ Q ((valX xs k).getD z) H3) := by
  refine ⟨fun pins s σ H Q I h => ?_⟩
  obtain ⟨l, xs, hl, h1, en, q1⟩ := h
  refine wpAny_Call_method m.base m.few m.line PySem.F.plainAttrs_dict PySem.F.slot_dict_get PySem.F.type_dict_get (thn ((pe_var hN hv hd hcd).run pins s σ H (fun x H2 => x = .ref l ∧ H2 = H) I ⟨_, hl, rfl, rfl⟩) fun u s1 ⟨x, H1, I1, rx, ex, eH⟩ => ?_)
  subst ex eH
  obtain rfl : u = Value.ref l := rx
  obtain ⟨t1, t2⟩ := dn_noDict I1 h1 en
  refine ⟨t1, t2, ?_⟩
  rw [m.trees]
  refine Calls.callWith_builtin rfl (Calls.evalArgs_plain (Calls.spliced_cons (thn (pe_wp.run pins s1 σ H1 _ I1 q1) fun iv s2 ⟨y, H2, I2, ry, q2⟩ =>
    Calls.spliced_cons (thn (pe_wp.run pins s2 σ H2 _ I2 q2) fun fv s3 ⟨z, H3, I3, rz, b, k, ey, h3, en3, kk, q3⟩ => Calls.spliced_nil ?_))))
  subst ey
  obtain rfl : iv = Value.ref b := ry
  exact dn_get2 hu I3 h3 en3 kk rz fun w' s4 I4 rw' => ⟨_, H3, I4, rw', q3⟩
theorem s_getOwn (i : Nat) {x : Str} {p apos cpos : Pos} (hu : X.A.units + 64 < cLine) (hke : Snd X e mk) (hxe : Snd X f mv) (hN : X.N[i]? = some x := by rfl) (hv : Vis X.env.scope x := by first | exact Or.inl rfl | exact Or.inr (Or.inl rfl) | exact Or.inr (Or.inr rfl)) (hd : (x == ("__debug__" : Str)) = false := by decide)
    (hcd : (x == ("__classdict__" : Str)) = false := by decide) (m : M2 X (.Name x p) "get" apos e f cpos := by exact ⟨rfl, rfl, rfl, rfl⟩) : Snd X (.Call (.Attribute (.Name x p) "get" apos) [e, f] [] cpos) (getOwn i mk mv) := fun {π N0 H0 N H σ ρ Q} I h => ⟨_, pe_getN hu hN hv hd hcd m, by
  unfold getOwn at h
  split at h
  · rename_i kvs c
    obtain ⟨l, xs, hs1, nl, n0, hl, rl⟩ := I.dic i kvs c
    refine ⟨l, xs, hs1, .inl hl, ⟨_, _, _, rl⟩, hke I (T.all_mono (fun dk hdk => ?_) (T.all_bind.mp h))⟩
    intro y H1 e1 r1
    refine hxe (I.ext e1) (T.all_mono (fun dx hdx => ?_) (T.all_bind.mp hdk))
    intro z H2 e2 r2
    obtain ⟨ds, k, rfl, ek, dp, hdx⟩ := withKey_all hdx
    obtain ⟨b, vs, rfl, hb, rb⟩ := id r1.tupE
    have e12 := e1.trans e2
    have rl2 := rl.mono e12.kp.hide
    refine ⟨b, k, rfl, .inl (e12.kp l _ (N_ne I.hn nl) hl), ⟨_, _, _, rl2⟩, ⟨dp, _, _, _, r1.mono e2.kp.hide, ek⟩, ?_⟩
    have hv := RvD.val (k := k) rl2
    cases q : dAt kvs k with
    | none =>
      rw [q] at hv hdx
      have hv : valX xs k = none := hv
      rw [hv]
      exact hdx z H2 e12 r2
    | some d =>
      rw [q] at hv hdx
      obtain ⟨v, hv, rv⟩ := (show ∃ v, valX xs k = some v ∧ Rv X.K X.prog X.w π (Hide N H2) v d from hv)
      rw [hv]
      exact hdx v H2 e12 rv
  · exact False.elim h⟩
/-! d[k] of a dict that is a value -/
def dGet : D → D → T D := fun d dk => match d with
  | .dic kvs => withKey dk fun k => match dAt kvs k with
    | some d => .ret d
    | none => .fail
  | _ => .fail
theorem pe_dgetN (hu : X.A.units + 64 < cLine) (hs : NoSl b) : PE X (.Subscript a b pos) (fun σ H Q => wpE X a σ H fun x H1 => wpE X b σ H1 fun y H2 => ∃ l xs c k v, x = .ref l ∧ y = .ref c ∧ Rd H2 l (DN X.prog X.w l xs) ∧ EntAt X H2 xs ∧ KeyAt X H2 c k ∧ valX xs k = some v ∧ Q v H2) := by
  refine ⟨fun pins s σ H Q I h => ?_⟩
  refine subD_of PySem.F.slot_dict_getitem.lookup hs (thn (pe_wp.run pins s σ H _ I h) fun u s1 ⟨x, H1, I1, rx, q1⟩ => thn (pe_wp.run pins s1 σ H1 _ I1 q1) fun iv s2 ⟨y, H2, I2, ry, l, xs, c, k, v, ex, ey, hr, en, kk, hv, q2⟩ => ?_)
  subst ex ey
  obtain rfl : u = Value.ref l := rx
  obtain rfl : iv = Value.ref c := ry
  exact ⟨(dn_noDict I2 hr en).1, dn_getItem hu I2 hr en kk hv fun w' s3 I3 rw' => ⟨v, H2, I3, rw', q2⟩⟩
theorem Rv.dicE {K : PySem.W.Frag} {P : Program} {w : World} {π : Addr} {N : Addr → Bool} {H : Hp} {v : V} {kvs : List (D × D)} (r : Rv K P w π (Hide N H) v (.dic kvs)) : ∃ a od xs, v = .ref a ∧ H a = some (.frz od (DN P w a xs)) ∧ N a = false ∧ a ≠ π ∧ RvD K P w π (Hide N H) xs kvs := by
  cases r with
  | dic h n r => exact ⟨_, _, _, rfl, (hide_some h).2, (hide_some h).1, n, r⟩
theorem s_dGet (hu : X.A.units + 64 < cLine) (ha : Snd X a ma) (hb : Snd X b mb) (hs : NoSl b) : Snd X (.Subscript a b pos) (eBin dGet ma mb) := fun {π N0 H0 N H σ ρ Q} I h => ⟨_, pe_dgetN hu hs, by
  refine ha I (T.all_mono (fun dx hx => ?_) (T.all_bind.mp h))
  intro v H1 e1 r1
  refine hb (I.ext e1) (T.all_mono (fun dy hy => ?_) (T.all_bind.mp hx))
  intro u H2 e2 r2
  unfold dGet at hy
  split at hy
  · rename_i kvs
    obtain ⟨ds, k, rfl, ek, dp, hy⟩ := withKey_all hy
    obtain ⟨l, od, xs, rfl, hl, _, _, rl⟩ := (r1.mono e2.kp.hide).dicE
    obtain ⟨c, vs, rfl, hb, rb⟩ := id r2.tupE
    have hv := RvD.val (k := k) rl
    cases q : dAt kvs k with
    | none => rw [q] at hy; exact False.elim hy
    | some d =>
      rw [q] at hv hy
      obtain ⟨v, hv, rv⟩ := (show ∃ v, valX xs k = some v ∧ Rv X.K X.prog X.w π (Hide N H2) v d from hv)
      exact ⟨l, xs, c, k, v, rfl, rfl, .inr ⟨_, hl⟩, ⟨_, _, _, rl⟩, ⟨dp, _, _, _, r2, ek⟩, hv, hy v H2 (e1.trans e2) rv⟩
  · exact False.elim hy⟩
/-! {k: v} -/
def eDict1 (mk mv : Rho → T D) : Rho → T D := fun ρ => (mk ρ).bind fun dk => (mv ρ).bind fun dv => withKey dk fun _ => .ret (.dic [(dk, dv)])
theorem pe_dict1 (hu : X.A.units + 64 < cLine) : PE X (.Dict [some ke] [ve] pos) (fun σ H Q => ∀ p, H p = none → wpE X ke σ (upd H p (DN X.prog X.w p [])) fun y H1 => wpE X ve σ H1 fun v H2 => ∃ b k, y = .ref b ∧ KeyAt X H2 b k ∧ H2 p = some (DN X.prog X.w p []) ∧ ∀ od, Q (.ref p) (upd H2 p (.frz od (DN X.prog X.w p [(k, b, v)])))) := by
  refine ⟨fun pins s σ H Q I h => ?_⟩
  have hn := I.hok.fresh (Nat.le_refl s.heap.objs.size)
  have I1 := I.laid (a := s.heap.objs.size) (o := DN X.prog X.w s.heap.objs.size []) (h' := s.heap.push { cls := .type "dict", data := .dict #[] }) (t' := s.toks) (fun _ _ q => Heap.get?_push_of_some _ q) (Nat.le_refl _) (dn_empty s.heap I.big)
  have hshape : (evalEachOpt [some ke] X.env).zip ((evalEach [ve] X.env).map fun v => do let x ← v; standAt pos; pure x) = ([(eval ke X.env, do let x ← eval ve X.env; standAt pos; pure x)] : List (Sem Value × Sem Value)).map fun p => (some p.1, p.2) := rfl
  rw [arm_eval_Dict, hshape, dictDisplay_pairs [(eval ke X.env, do let x ← eval ve X.env; standAt pos; pure x)] (by simp) (by simp)]
  refine wpAny_bind (wpAny_standAt (wpAny_bind (wpAny_subDictH (knd := nestedKind X.prog X.w) (by show X.A.units + 8 < cLine; omega) (by simp)
    (evalPairs_cons (thn (pe_wp.run pins _ σ _ _ I1 (h _ hn)) fun u s1 ⟨y, H1, I1, ry, q1⟩ => wpAny_bind (thn (pe_wp.run pins s1 σ H1 _ I1 q1) fun w2 s2 ⟨v, H2, I2, rv, b, k, ey, kk, hp, q⟩ => wpAny_bind (wpAny_standAt (wpAny_pure (evalPairs_nil ?_)))))))))
  subst ey
  obtain rfl : u = Value.ref b := ry
  obtain ⟨h1, _, ys, pr, dd⟩ := dn_of I2 (.inl hp) ⟨s.heap.objs.size, fun _ => false, [], .nil⟩
  cases pr
  refine ⟨[(k, b, w2)], ⟨rfl, rfl, kk.is I2, True.intro⟩, dd, fun h' tk dz sb => wpAny_pure ?_⟩
  have I3 : Inv X pins σ (upd H2 s.heap.objs.size (DN X.prog X.w s.heap.objs.size [(k, b, v)])) { s2 with heap := h', toks := tk } := by
    have he : ∃ q, h'.get? s.heap.objs.size = some q := let ⟨q, _, _, e, _⟩ := dz; ⟨q, e⟩
    exact d_write I2 (by rw [hp]; exact True.intro) sb he (dn_ok h1 (show 1 ≤ sizeLine by decide) (.cons ⟨rfl, rfl, rv⟩ .nil) dz)
  obtain ⟨od, I4⟩ := I3.lock upd_same True.intro
  rw [upd_upd] at I4
  exact ⟨.ref s.heap.objs.size, _, I4, rfl, q od⟩
theorem EnvOk.hideNewD {l : Addr} (I : EnvOk X.K X.prog X.w π N0 H0 N H σ ρ) (hl : H l = none) : EnvOk X.K X.prog X.w π N0 H0 (plus N l) (upd H l (DN X.prog X.w l [])) σ ρ := by
  have J := I.newAny (i := σ.length) (x := .ownD []) (Ex.new (o := DN X.prog X.w l []) I.hn.pot hl) hl (by rw [upd_same]; exact fun z => by cases z) (.inr ⟨[], [], rfl, upd_same, .nil⟩)
  rw [List.set_eq_of_length_le (Nat.le_refl _), List.set_eq_of_length_le (by rw [I.len]; exact Nat.le_refl _)] at J
  exact J
theorem s_dict1 (hu : X.A.units + 64 < cLine) (hk : Snd X ke mk) (hv : Snd X ve mv) : Snd X (.Dict [some ke] [ve] pos) (eDict1 mk mv) := fun {π N0 H0 N H σ ρ Q} I h => ⟨_, pe_dict1 hu, fun p hp => by
  have Np := I.hn.new hp
  have ppi := I.hn.pot.ne hp
  have I1 := I.hideNewD hp
  refine hk I1 (T.all_mono (fun dk hdk => ?_) (T.all_bind.mp h))
  intro y H1 e1 r1
  refine hv (I1.ext e1) (T.all_mono (fun dv hdv => ?_) (T.all_bind.mp hdk))
  intro v H2 e2 r2
  obtain ⟨ds, k, rfl, ek, dp, hdv⟩ := withKey_all hdv
  have r1 := r1.mono e2.kp.hide
  obtain ⟨b, vs, rfl, hb, rb⟩ := id r1.tupE
  have e12 := e1.trans e2
  have h2 : H2 p = some (DN X.prog X.w p []) := e12.kp p _ ppi upd_same
  refine ⟨b, k, rfl, ⟨dp, _, _, _, r1, ek⟩, h2, fun od => ?_⟩
  have kp : Kp π (Hide (plus N p) H2) (Hide N (upd H2 p (.frz od (DN X.prog X.w p [(k, b, v)])))) := fun a o n q => by
    obtain ⟨na, ha⟩ := hide_some q
    have ne : a ≠ p := fun z => by rw [z, plus_self] at na; cases na
    have na' : N a = false := by
      cases c : N a with
      | false => rfl
      | true => rw [plus_old c] at na; cases na
    rw [hide_in na', upd_ne ne]
    exact ha
  refine hdv _ _ ⟨fun a o n q => ?_, ?_⟩ (.dic (od := od) (xs := [(k, b, v)]) (by rw [hide_in Np, upd_same]) ppi (.cons ek dp (r1.mono kp) (r2.mono kp) .nil))
  · have ne : a ≠ p := fun z => by rw [z, hp] at q; cases q
    rw [upd_ne ne]
    exact e12.kp a o n (by rw [upd_ne ne]; exact q)
  · obtain ⟨x, y, q, r⟩ := e12.pot
    exact ⟨x, y, by rw [upd_ne ppi.symm]; exact q, r⟩⟩
end
end Pd

/-! Loops over d.items() and enumerate(tuple). -/
namespace Pd
open PySem L2 PySem.Spec PyProof.Rows

/-- the entries of a locked dict, each in a new pair -/
def Itn (P : Program) (w : World) (d : Addr) (o : Obj) (xs : List (NestedKey × Addr × V)) : It :=
  ⟨fun i H => H d = some (.frz o (DN P w d xs)) ∧ i < xs.length, fun i H v H' => ∃ T x, xs[i]? = some x ∧ v = .ref T ∧ H T = none ∧ H' = upd H T (.tup [.ref x.2.1, x.2.2]), fun i H => H d = some (.frz o (DN P w d xs)) ∧ i = xs.length⟩
theorem PX.get {xs : List (NestedKey × Addr × V)} {ys : List (NestedKey × Addr × Value)} (r : PX xs ys) : ∀ {i : Nat} {x : NestedKey × Addr × V}, xs[i]? = some x → ∃ y, ys[i]? = some y ∧ x.1 = y.1 ∧ x.2.1 = y.2.1 ∧ RelV x.2.2 y.2.2 := by
  induction r with
  | nil => intro i x e; simp at e
  | @cons p q ps qs h t ih =>
    intro i x e
    cases i with
    | zero => simp at e; subst e; exact ⟨q, rfl, h⟩
    | succ i => exact ih (i := i) (by simpa using e)
section
variable {X : Cx} {pins : List (Addr × Obj)} {σ : L2.St} {H : Hp} {s : Shared} {P : Program} {w : World} {K : PySem.W.Frag}
theorem frz_at {d : Addr} {o : Obj} {xs : List (NestedKey × Addr × V)} {es : Array DictEntry} {ep : Nat} (I : Inv X pins σ H s) (h : H d = some (.frz o (DN X.prog X.w d xs))) (hod : o.data = .dict es ep) :
    s.heap.DictRaw d es ep ∧ es.size = xs.length ∧ ∀ (i : Nat) (x : NestedKey × Addr × V), xs[i]? = some x → ∃ (hi : i < es.size), es[i].key = .ref x.2.1 ∧ RelV x.2.2 es[i].val := by
  obtain ⟨ho, ⟨h1, h2, h3, ys, pr, o', es', ep', ho', hc, hd, he⟩, _⟩ := (show ObjOk X.prog X.w H s.heap d (.frz o (DN X.prog X.w d xs)) from I.hok d _ h)
  rw [ho] at ho'
  cases ho'
  rw [hod] at hd
  cases hd
  have hs : es.size = ys.length := size_of_entries he
  have hl : xs.length = ys.length := Paired.length pr
  refine ⟨⟨o, ho, hc, hod⟩, by omega, fun i x hx => ?_⟩
  obtain ⟨y, hy, r1, r2, r3⟩ := PX.get pr hx
  have hi : i < es.size := by
    have := (List.getElem?_eq_some_iff.mp hy).1
    omega
  have e := entry_at he i
  rw [Array.getElem?_eq_getElem hi, hy, Option.map_some] at e
  have e' : es[i] = entryOfKey (nestedKind X.prog X.w) y := Option.some.inj e
  refine ⟨hi, ?_, ?_⟩
  · rw [e', r2]; rfl
  · rw [e']; exact r3
theorem turn_itemsN {d : Addr} {o : Obj} {xs : List (NestedKey × Addr × V)} {es : Array DictEntry} {ep : Nat} {elts : List Expr} {kk : Nat} {tpos : Pos} (it : Addr) (hod : o.data = .dict es ep) :
    Turn P w K (.Tuple elts kk tpos) (Itn P w d o xs) [it] it (fun i h => ∃ ok ov, IsItemIter h it d i es.size ep ok ov) where
  mem := by simp
  obj := fun i h st b hb => by
    have e : b = it := by simpa using hb
    subst e
    obtain ⟨ok, ov, e⟩ := st
    exact ⟨_, e, fun v z => nomatch z⟩
  keep := fun i h h' st k => let ⟨ok, ov, e⟩ := st; ⟨ok, ov, k it (by simp) _ e⟩
  item := by
    intro X hP hw hK hc i pins s σ H E I hf st hg
    subst hP hw hK
    obtain ⟨hd, hi⟩ := hg
    obtain ⟨raw, hsz, ent⟩ := frz_at I hd hod
    obtain ⟨x, hx⟩ : ∃ x, xs[i]? = some x := ⟨xs[i], List.getElem?_eq_getElem hi⟩
    obtain ⟨hlt, ek, ev⟩ := ent i x hx
    obtain ⟨ok, ov, he⟩ := st
    have hil : it < s.heap.objs.size := Heap.lt_size he
    refine wpAny_pyNext_items_item_raw he raw hlt fun h' ho hT hz hk => ?_
    refine ⟨_, rfl, wpAny_letOwnedTupleGo_items (s := { s with heap := h' }) ho fun h'' he' sb => ?_⟩
    have hT2 : h''.get? s.heap.objs.size = some { cls := .type "tuple", data := .seq #[es[i].key, es[i].val] } := (sb.2 _ (Nat.ne_of_gt hil)).trans hT
    have new : ObjOk X.prog X.w (upd H s.heap.objs.size (.tup [.ref x.2.1, x.2.2])) h'' s.heap.objs.size (.tup [.ref x.2.1, x.2.2]) :=
      ⟨by show 2 ≤ sizeLine; decide, [es[i].key, es[i].val], .cons (show RelV (V.ref x.2.1) es[i].key by rw [ek]; rfl) (.cons ev .nil), ⟨_, hT2, rfl, _, rfl⟩⟩
    have I1 : Inv X pins σ (upd H s.heap.objs.size (.tup [.ref x.2.1, x.2.2])) { s with heap := h'' } :=
      I.turnedNew (t' := s.toks) (ch := [it]) (fun b ob hb e => (sb.2 b (by simpa using hb)).trans (hk b ob (by simpa using hb) e)) hf (Nat.le_refl _) new
    refine ⟨.ref s.heap.objs.size, _, I1, rfl, ⟨_, x, hx, rfl, I.hok.fresh (Nat.le_refl _), rfl⟩, ⟨_, _, he'⟩, fun b hb => ?_⟩
    have e : b = it := by simpa using hb
    rw [e, upd_ne (Nat.ne_of_lt hil)]
    exact (hf it (by simp)).1
  done := by
    intro X hP hw hK hc i pins s σ H E I hf st hg
    subst hP hw hK
    obtain ⟨hd, hi⟩ := hg
    obtain ⟨f0, f1, f2, f3, f4, f5⟩ := hf it (by simp)
    obtain ⟨raw, hsz, ent⟩ := frz_at I hd hod
    obtain ⟨ok, ov, he⟩ := st
    exact wpAny_pyNext_items_end_raw (I.ok.hd hc) he raw (by omega) fun h' eb => ⟨rfl, I.turned (t' := s.toks) (fun b ob hb e => eb b ob hb e) f0 f1 f3 f4 f5⟩
  self := fun A i s Q E st h => let ⟨_, _, e⟩ := st; PySem.wpAny_pyIter_itemiter e h
end
section
variable {X : Cx} {e : Expr} {apos cpos tpos : Pos} {elts : List Expr} {kk : Nat} {m : Rho → T D} {ms : Rho → T (List D)}
theorem pi_itemsN (hbase : attributeBase e "items" X.env (eval e X.env) = eval e X.env) (hline : (apos.endLine == cpos.line) = true) :
    PI X (.Tuple elts kk tpos) (.Call (.Attribute e "items" apos) [] [] cpos) (fun σ H R => wpE X e σ H fun x H1 => ∃ d o xs, x = .ref d ∧ H1 d = some (.frz o (DN X.prog X.w d xs)) ∧ R (Itn X.prog X.w d o xs) H1) := by
  refine ⟨fun pins s σ H R I h => ?_⟩
  refine wpAny_Call_method (T := "dict") (id := "dict.items") hbase rfl hline F.plainAttrs_dict F.slot_dict_items F.type_dict_items (thn (pe_wp.run pins s σ H _ I h) fun u s1 ⟨x, H1, I1, rx, d, o, xs, ex, hd, q⟩ => ?_)
  subst ex
  obtain rfl : u = Value.ref d := rx
  obtain ⟨ho, ⟨h1, h2, h3, ys, pr, o', es, ep, ho', hc, hdt, he⟩, _⟩ := (show ObjOk X.prog X.w H1 s1.heap d (.frz o (DN X.prog X.w d xs)) from I1.hok d _ hd)
  have eo : o' = o := Option.some.inj (ho'.symm.trans ho)
  subst eo
  have raw : s1.heap.DictRaw d es ep := ⟨_, ho, hc, hdt⟩
  refine ⟨raw.typeIs, fun b q => ?_, ?_⟩
  · cases q
    exact ⟨_, ho, hc.2.1⟩
  have I2 : Inv X pins σ H1 { s1 with heap := s1.heap.push { cls := .type "dict_items", data := .fields #[.ref d] } } := I1.kept (t' := s1.toks) fun b ob q => Heap.get?_push_of_some _ q
  have fin : wpAny (model X.prog X.w) X.A (pyIter (.ref s1.heap.objs.size)) (PIE X pins σ (.Tuple elts kk tpos) R) X.xe { s1 with heap := s1.heap.push { cls := .type "dict_items", data := .fields #[.ref d] } } :=
    wpAny_pyIter_items_raw (d := d) ⟨_, Heap.get?_push_size _ rfl, rfl, rfl⟩ (raw.at fun o q => Heap.get?_push_of_some _ q) (pi_one (tk := s1.toks) I2 _ (turn_itemsN _ hdt) ⟨.none, .none, Heap.get?_push_size _ rfl⟩ q)
  show wpAny _ _ (callWith cpos (.builtin "dict.items") [.ref d] [] []) _ X.xe s1
  exact method_meetsIn F.slot_dict_items F.entry_dict_items rfl (PySem.evalArgs_none ⟨rfl, raw.typeIs, F.args_dict_items_1 _, _, meets_dict_items_raw d h1, ⟨es, ep, raw⟩, fin⟩)
def iItems (m : Rho → T D) : Rho → T (List D) := fun ρ => (m ρ).bind fun d => match d with
  | .dic kvs => .ret (kvs.map fun p => .tup [p.1, p.2])
  | _ => .fail
theorem si_items (ha : Snd X e m) (hbase : attributeBase e "items" X.env (eval e X.env) = eval e X.env := by rfl) (hline : (apos.endLine == cpos.line) = true := by rfl) : SndI X (.Tuple elts kk tpos) (.Call (.Attribute e "items" apos) [] [] cpos) (iItems m) := fun {π N0 H0 N H σ ρ R} I h =>
  ⟨_, pi_itemsN hbase hline, ha I (T.all_mono (fun d hd => by
    intro v H2 e2 r
    cases d with
    | dic kvs =>
      obtain ⟨l, od, xs, rfl, hl, nl, ne, rl⟩ := r.dicE
      refine ⟨l, od, xs, rfl, hl, hd _ _ e2 fun N' H' i hn k => ?_⟩
      have hv : Hide N H2 l = some (.frz od (DN X.prog X.w l xs)) := by rw [hide_in nl]; exact hl
      have h' := k l _ ne hv
      obtain ⟨n', hl'⟩ := hide_some h'
      have hlen := rl.length
      refine ⟨fun d hd => ?_, fun e => ⟨hl', by rw [hlen, e, List.length_map]⟩⟩
      rw [List.getElem?_map] at hd
      cases q : kvs[i]? with
      | none => rw [q] at hd; cases hd
      | some p =>
        rw [q] at hd
        cases hd
        obtain ⟨kx, a, v, hx, r1, r2⟩ := (rl.mono k).get q
        refine ⟨⟨hl', (List.getElem?_eq_some_iff.mp hx).1⟩, fun x H3 y => ?_⟩
        obtain ⟨T, x', hx', rfl, hT, rfl⟩ := y
        rw [hx] at hx'
        cases hx'
        have en := Ex.new (o := .tup [V.ref a, v]) hn.pot hT
        exact ⟨en, .tup (hide_new (hn.new hT)) (hn.pot.ne hT) (.cons (r1.mono en.kp.hide) (.cons (r2.mono en.kp.hide) .nil))⟩
    | _ => exact False.elim hd) (T.all_bind.mp h))⟩
end

/-! ### enumerate(tuple) -/
set_option maxHeartbeats 1000000 in
theorem meets_enum1 {v : Value} {o : Obj} {H : Heap → Prop} (B : Begins v o H) :
    Meets (Builtin.«enumerate.__new__» ⟨[.type "enumerate", v], []⟩) (fun _ R s => H s.heap ∧
      R (.ok (.ret (.ref (s.heap.push o).objs.size))) { s with heap := (s.heap.push o).push { cls := .type "enumerate", data := .fields #[.none, .bool false, .ref s.heap.objs.size, rawInt 0, .none, .none] } }) :=
  .of_wp fun prog w A R s h => by
    obtain ⟨hp, g, d, tk, os⟩ := s; obtain ⟨h1, h⟩ := h
    have hsub := sub_enumerate
    have q1 : ∀ {A' : Around} {E : Value → Shared → Prop} {Q : Value → Shared → Prop}, Q (.ref hp.objs.size) ⟨hp.push o, g, d, tk, os⟩ → wpAny (model prog w) A' (pyIter v) Q E ⟨hp, g, d, tk, os⟩ :=
      fun q => B.iter prog w _ _ ⟨hp, g, d, tk, os⟩ _ h1 q
    wp_walk using q1
    refine wpAny_stack_any fun st => wpAny_pure ?_
    split
    · rename_i c _ _ _ _ _
      cases (c == Value.type "enumerate")
      · wp_walk using q1
        exact ⟨_, rfl, h⟩
      · wp_walk using q1
        exact ⟨_, rfl, h⟩
    · wp_walk using q1
      exact ⟨_, rfl, h⟩
theorem enum_begins1 {prog : Program} {w : World} {A : Around} {E : Value → Shared → Prop} {s : Shared} {v : Value} {o : Obj} {H : Heap → Prop} {Q : Value → Shared → Prop} (B : Begins v o H) (h1 : H s.heap)
    (h : ∀ h', IsEnum h' (s.heap.objs.size + 1) s.heap.objs.size 0 .none → h'.get? s.heap.objs.size = some o → h'.objs.size = s.heap.objs.size + 2 →
      (∀ b o, s.heap.get? b = some o → h'.get? b = some o) → Q (.ref (s.heap.objs.size + 1)) { s with heap := h' }) :
    wpAny (model prog w) A (call (.type "enumerate") [v]) Q E s := by
  refine callType_new F.called_enumerate (by decide) (F.typeCall_enumerate_1 _) (F.newCall_enumerate_1 _) (fun obj => F.args_object_init_2 obj _) F.entry_enumerate_new (meets_enum1 B) ⟨h1, ?_⟩
  have hz : (s.heap.push o).objs.size = s.heap.objs.size + 1 := Heap.size_push ..
  show _ ∧ _
  rw [hz]
  have he : IsEnum ((s.heap.push o).push { cls := .type "enumerate", data := .fields #[.none, .bool false, .ref s.heap.objs.size, rawInt 0, .none, .none] }) (s.heap.objs.size + 1) s.heap.objs.size 0 .none := by
    have := Heap.get?_push_size (s.heap.push o) (o := { cls := .type "enumerate", data := .fields #[.none, .bool false, .ref s.heap.objs.size, rawInt 0, .none, .none] }) rfl
    rw [hz] at this; exact this
  refine ⟨⟨_, he, rfl⟩, h _ he (Heap.get?_push_of_some _ (Heap.get?_push_size _ B.free)) (by rw [Heap.size_push, hz]) fun b o x => Heap.get?_push_of_some _ (Heap.get?_push_of_some _ x)⟩
def Iten (K : PySem.W.Frag) (a : Addr) : It :=
  ⟨fun i H => ∃ (xs : List V) (x : V), SqT K H a xs ∧ xs[i]? = some x, fun i H v H' => ∃ T x, v = .ref T ∧ H T = none ∧ H' = upd H T (.tup [.int (i : Nat), x]) ∧ ∀ xs, SqT K H a xs → xs[i]? = some x, fun i H => ∃ xs : List V, SqT K H a xs ∧ xs.length = i⟩
theorem turn_enumT {P : Program} {w : World} {K : PySem.W.Frag} {elts : List Expr} {kk : Nat} {tpos : Pos} (a e it : Addr) :
    Turn P w K (.Tuple elts kk tpos) (Iten K a) [e, it] e (fun i h => (∃ old, IsEnum h e it ((i : Nat) : Int) old) ∧ h.IsTupleIter it a i ∧ e ≠ it ∧ a ≠ it ∧ a ≠ e) where
  mem := by simp
  obj := fun i h st b hb => by
    obtain ⟨⟨old, he⟩, ⟨o, ho, hc, hd⟩, _⟩ := st
    have e' : b = e ∨ b = it := by simpa using hb
    rcases e' with z | z
    · rw [z]; exact ⟨_, he, fun v q => nomatch q⟩
    · rw [z]; exact ⟨o, ho, fun v q => by rw [hd] at q; cases q⟩
  keep := fun i h h' st k => let ⟨⟨old, he⟩, hi, hne⟩ := st; ⟨⟨old, k e (by simp) _ he⟩, hi.at fun o q => k it (by simp) o q, hne⟩
  item := by
    intro X hP hw hK hc i pins s σ H E I hf st hg
    subst hP hw hK
    obtain ⟨⟨old, he⟩, hit, hne, ha1, ha2⟩ := st
    obtain ⟨xs, x, hq, hx⟩ := hg
    obtain ⟨its, rv, p, hz⟩ := I.tuple hq
    obtain ⟨u, hu, ru⟩ := rv.get hx
    have hel : e < s.heap.objs.size := Heap.lt_size he
    have hil : it < s.heap.objs.size := by obtain ⟨_, q, _⟩ := hit; exact Heap.lt_size q
    have pt : s.heap.IsTuple a its.toArray := p
    have hi : i < its.toArray.size := by
      have := (List.getElem?_eq_some_iff.mp hu).1
      simpa using this
    refine wpAny_pyNext_enum_itemC (Draws.tuple (show X.A.in1.handled = none from I.ok.hd hc) it a ha1 its.toArray) he ⟨hit, pt⟩ hi hne (by simp [hne, ha2.symm]) fun x' h' tk hP ho hst hT hsz hk => ?_
    have ex : x' = u := by
      have hu' : its.toArray[i]? = some u := by simpa using hu
      exact Option.some.inj (hP.symm.trans hu')
    subst ex
    refine ⟨_, rfl, wpAny_letOwnedTupleGo_enum (s := { s with heap := h', toks := tk + 1 }) ho fun h'' he' sb => ?_⟩
    have hT2 : h''.get? s.heap.objs.size = some { cls := .type "tuple", data := .seq #[.int i tk, x'] } := (sb.2 _ (Nat.ne_of_gt hel)).trans hT
    have new : ObjOk X.prog X.w (upd H s.heap.objs.size (.tup [.int (i : Nat), x])) h'' s.heap.objs.size (.tup [.int (i : Nat), x]) :=
      ⟨by show 2 ≤ sizeLine; decide, [.int i tk, x'], .cons ⟨_, rfl⟩ (.cons ru .nil), ⟨_, hT2, rfl, _, rfl⟩⟩
    have I1 : Inv X pins σ (upd H s.heap.objs.size (.tup [.int (i : Nat), x])) { s with heap := h'', toks := tk + 1 } :=
      I.turnedNew (ch := [e, it]) (fun b ob hb q => (sb.2 b (fun z => hb (by simp [z]))).trans (hk b ob (fun z => hb (by simp [z])) (fun z => hb (by simp [z])) q)) hf (Nat.le_refl _) new
    refine ⟨.ref s.heap.objs.size, _, I1, rfl, ⟨_, x, rfl, I.hok.fresh (Nat.le_refl _), rfl, fun ys hy => by rw [I.tuple_inj hy hq]; exact hx⟩, ⟨⟨x', ?_⟩, hst.1.at fun o q => (sb.2 it (Ne.symm hne)).trans q, hne, ha1, ha2⟩, fun b hb => ?_⟩
    · have e1 : ((i + 1 : Nat) : Int) = (i : Int) + 1 := by omega
      rw [e1]; exact he'
    · have hb' : b < s.heap.objs.size := by
        have e' : b = e ∨ b = it := by simpa using hb
        rcases e' with z | z
        · rw [z]; exact hel
        · rw [z]; exact hil
      rw [upd_ne (Nat.ne_of_lt hb')]
      exact (hf b hb).1
  done := by
    intro X hP hw hK hc i pins s σ H E I hf st hg
    subst hP hw hK
    obtain ⟨⟨old, he⟩, hit, hne, ha1, ha2⟩ := st
    obtain ⟨xs, hq, hx⟩ := hg
    obtain ⟨its, rv, p, hz⟩ := I.tuple hq
    obtain ⟨f0, f1, f2, f3, f4, f5⟩ := hf it (by simp)
    have hl := rv.length
    have pt : s.heap.IsTuple a its.toArray := p
    have ei : i = its.toArray.size := by simp; omega
    rw [ei] at hit
    exact wpAny_pyNext_enum_endD (Draws.tuple (show X.A.in1.handled = none from I.ok.hd hc) it a ha1 its.toArray) he ⟨hit, pt⟩ fun h' eb => ⟨rfl, I.turned (t' := s.toks) (fun b o hb q => eb b o hb q) f0 f1 f3 f4 f5⟩
  self := fun A i s Q E st h => let ⟨⟨_, he⟩, _⟩ := st; wpAny_pyIter_enum he h
section
variable {X : Cx} {a : Expr} {p pos tpos : Pos} {elts : List Expr} {kk : Nat} {ms : Rho → T (List D)}
theorem pi_enumT {ta : TA} (hg : Gl X "enumerate") (hm : X.mg "enumerate" = none) (ha : PA X [a] ta) (hs : starEach [a] X.env = [(false, eval a X.env)]) :
    PI X (.Tuple elts kk tpos) (.Call (.Name "enumerate" p) [a] [] pos) (fun σ H R => ta σ H fun vs H1 => ∃ a xs, vs = [.ref a] ∧ SqT X.K H1 a xs ∧ R (Iten X.K a) H1) := by
  refine ⟨fun pins s σ H R I h => ?_⟩
  refine Call_ (ld_blt I hg hm boot_enumerate (PyProof.Rows.callWith_type1 (thn (ha.run pos pins s σ H _ I h) fun us s1 ⟨vs, H1, I1, r1, q1⟩ => ?_) hs rfl))
  obtain ⟨a, xs, ex, hq, q⟩ := q1
  subst ex
  cases r1 with
  | cons r rr =>
    cases rr
    cases r
    obtain ⟨its, rv, p', hz⟩ := I1.tuple hq
    have pt : s1.heap.IsTuple a its.toArray := p'
    have alt : a < s1.heap.objs.size := let ⟨_, ho, _⟩ := p'; Heap.lt_size ho
    refine enum_begins1 (begins_tuple a its.toArray) pt fun h' he hit hsz hk => wpAny_pyIter_enum he ?_
    have I2 : Inv X pins σ H1 { s1 with heap := h' } := I1.kept (t' := s1.toks) hk
    refine ⟨s1.heap.objs.size + 1, [s1.heap.objs.size + 1, s1.heap.objs.size], _, _, H1, rfl, I2, turn_enumT a (s1.heap.objs.size + 1) s1.heap.objs.size, ⟨⟨.none, he⟩, ⟨_, hit, rfl, rfl⟩, Nat.succ_ne_self _, Nat.ne_of_lt alt, Nat.ne_of_lt (Nat.lt_succ_of_lt alt)⟩, fun b hb => ?_, q⟩
    have e' : b = s1.heap.objs.size + 1 ∨ b = s1.heap.objs.size := by simpa using hb
    have hle : s1.heap.objs.size ≤ b := by
      rcases e' with z | z
      · rw [z]; exact Nat.le_add_right _ _
      · rw [z]; exact Nat.le_refl _
    exact I1.fpOk hle (I1.hok.fresh hle)
def numbered : Nat → List D → List D
  | _, [] => []
  | n, d :: ds => .tup [.int n, d] :: numbered (n + 1) ds
theorem numbered_len : ∀ {ds : List D} {n : Nat}, (numbered n ds).length = ds.length
  | [], _ => rfl
  | _ :: ds, n => congrArg Nat.succ numbered_len
theorem numbered_get : ∀ {ds : List D} {n i : Nat} {d : D}, (numbered n ds)[i]? = some d → ∃ x, ds[i]? = some x ∧ d = .tup [.int ((n + i : Nat) : Int), x]
  | [], _, _, _, h => by simp [numbered] at h
  | x :: ds, n, 0, d, h => by simp [numbered] at h; exact ⟨x, rfl, h.symm⟩
  | x :: ds, n, i + 1, d, h => by
    obtain ⟨y, hy, e⟩ := numbered_get (ds := ds) (n := n + 1) (i := i) (by simpa [numbered] using h)
    exact ⟨y, hy, by rw [e]; congr 4; omega⟩
def enumT : List D → T (List D)
  | [.tup ds] => .ret (numbered 0 ds)
  | _ => .fail
theorem si_enumT (hm : X.mg "enumerate" = none) (ha : SndA X [a] ms) (hg : Gl X "enumerate" := by rfl) (hs : starEach [a] X.env = [(false, eval a X.env)] := by rfl) : SndI X (.Tuple elts kk tpos) (.Call (.Name "enumerate" p) [a] [] pos) (iRg enumT ms) := fun {π N0 H0 N H σ ρ R} I h =>
  ⟨_, pi_enumT hg hm pa_wp hs, ha I (T.all_mono (fun ds hd => by
    intro vs H2 e2 r
    unfold enumT at hd
    split at hd
    · cases r with
      | cons r t =>
        cases t
        obtain ⟨a, us, rfl, hq, ra⟩ := id r.tupE
        refine ⟨a, us, rfl, hq, hd _ _ e2 fun N' H' i hn k => ?_⟩
        obtain ⟨a', vs, e, _, sq, _, rb⟩ := sqt_kp k r
        cases e
        refine ⟨fun d hd => ?_, fun e => ⟨vs, sq, by rw [e, numbered_len, rb.length]⟩⟩
        obtain ⟨x, hx, rfl⟩ := numbered_get hd
        obtain ⟨v, hv, rv⟩ := rb.get hx
        refine ⟨⟨vs, v, sq, hv⟩, fun y H3 z => ?_⟩
        obtain ⟨T, x', rfl, hT, rfl, all⟩ := z
        have e3 := all vs sq
        rw [hv] at e3
        cases e3
        have en := Ex.new (o := .tup [V.int (i : Nat), v]) hn.pot hT
        refine ⟨en, .tup (hide_new (hn.new hT)) (hn.pot.ne hT) (.cons ?_ (.cons (rv.mono en.kp.hide) .nil))⟩
        rw [Nat.zero_add]
        exact .int _
    · exact False.elim hd) (T.all_bind.mp h))⟩
end
end Pd

/-! sorted of lists of data, of the keys of a dict. -/
namespace Pd
open PySem L2 PySem.W PySem.Calls PyProof.Rows

def ins {α : Type} (le : α → α → Bool) (a : α) : List α → List α
  | [] => [a]
  | b :: bs => cond (le a b) (a :: b :: bs) (b :: ins le a bs)
def isort {α : Type} (le : α → α → Bool) : List α → List α
  | [] => []
  | a :: as => ins le a (isort le as)
theorem ins_at {α : Type} {le : α → α → Bool} {a : α} : ∀ {l₁ l₂ : List α}, (∀ b ∈ l₁, (!le a b) = true) → (∀ b ∈ l₂, le a b = true) → ins le a (l₁ ++ l₂) = l₁ ++ a :: l₂
  | [], [], _, _ => rfl
  | [], b :: bs, _, h => by
    show cond (le a b) _ _ = _
    rw [h b (List.mem_cons_self ..)]
    rfl
  | c :: cs, l₂, h1, h2 => by
    have hc : le a c = false := by have := h1 c (List.mem_cons_self ..); simpa using this
    show cond (le a c) _ _ = _
    rw [hc]
    show c :: ins le a (cs ++ l₂) = _
    rw [ins_at (fun b hb => h1 b (List.mem_cons_of_mem _ hb)) h2]
    rfl
theorem merge_isort {α : Type} {le : α → α → Bool} (h : TotalLe le) : ∀ l : List α, l.mergeSort le = isort le l
  | [] => by simp [isort]
  | a :: l => by
    have tr : ∀ a b c, le a b = true → le b c = true → le a c = true := h.trans
    have to : ∀ a b, (le a b || le b a) = true := fun a b => Bool.or_eq_true_iff.mpr (h.total a b)
    obtain ⟨l₁, l₂, e1, e2, e3⟩ := List.mergeSort_cons tr to a l
    have hp := sort_pairwise h (a :: l)
    rw [e1] at hp
    have h2 : ∀ b ∈ l₂, le a b = true := (List.pairwise_cons.mp (List.pairwise_append.mp hp).2.1).1
    rw [e1]
    unfold isort
    rw [← merge_isort h l, e2]
    exact (ins_at (fun b hb => e3 b hb) h2).symm

/-- data as PyData (what has none: None) -/
def pyOf (d : D) : PyData := d.py.getD .none
def alikeB (ps : List PyData) : Bool := ps.all fun p => ps.all fun q => alike p q
def headed : PyData → Bool
  | .tuple (_ :: _) => true
  | _ => false
def unheaded : PyData → Bool
  | .none => false
  | .tuple _ => false
  | _ => true
def dLe (x y : D) : Bool := dataLe false pyOf x y
def okSort (ds : List D) : Bool := ds.all (fun d => d.py.isSome && decide ((pyOf d).depth ≤ 32)) && alikeB (ds.map pyOf) && ((ds.map pyOf).all headed || (ds.map pyOf).all unheaded) && small ds
def isEmptyTup : List D → Bool
  | [.tup []] => true
  | _ => false
def sortD (ds : List D) : T (List D) := cond (isEmptyTup ds) (.ret ds) (cond (okSort ds) (.ret (isort dLe ds)) .fail)
theorem alike_of {ps : List PyData} (h : alikeB ps = true) : AllAlike ps := fun d hd d' hd' => List.all_eq_true.mp (List.all_eq_true.mp h d hd) d' hd'
theorem headed_of {p : PyData} (h : headed p = true) : ∃ x r, p = .tuple (x :: r) := by
  unfold headed at h
  split at h
  · exact ⟨_, _, rfl⟩
  · cases h
theorem unheaded_of {p : PyData} (h : unheaded p = true) : p ≠ .none ∧ ∀ xs, p ≠ .tuple xs := by
  unfold unheaded at h
  split at h
  · cases h
  · cases h
  · exact ⟨by assumption, by assumption⟩
theorem sortable_of {ps : List PyData} (h : (ps.all headed || ps.all unheaded) = true) : Sortable ps := by
  rcases Bool.or_eq_true_iff.mp h with h | h
  · exact .inl fun d hd => headed_of (List.all_eq_true.mp h d hd)
  · exact .inr fun d hd => unheaded_of (List.all_eq_true.mp h d hd)

section
variable {X : Cx} {π : Addr} {N : Addr → Bool} {H : Hp} {pins : List (Addr × Obj)} {σ : L2.St} {s : Shared}
theorem each_of {h' : Heap} (I : Inv X pins σ H s) (k : ∀ b o, s.heap.get? b = some o → h'.get? b = some o) : ∀ {ds : List D} {us : List V} {vs : List Value}, RvL X.K X.prog X.w π (Hide N H) us ds → Vals us vs → (∀ d ∈ ds, d.py.isSome = true) →
    ∃ bs : List (V × D), bs.map (·.1) = us ∧ bs.map (·.2) = ds ∧ EachIs (fun (v : Value) (b : V × D) => RelV b.1 v ∧ Rv X.K X.prog X.w π (Hide N H) b.1 b.2) vs bs ∧ EachIs (fun (v : Value) (b : V × D) => ∃ as, Reads h' v (pyOf b.2) as) vs bs
  | _, _, _, .nil, .nil, _ => ⟨[], rfl, rfl, .nil, .nil⟩
  | d :: ds, u :: us, v :: vs, .cons r t, .cons rv rt, hp => by
    obtain ⟨bs, e1, e2, e3, e4⟩ := each_of I k t rt fun d hd => hp d (List.mem_cons_of_mem _ hd)
    have hd := hp d (List.mem_cons_self ..)
    obtain ⟨p, hpy⟩ := Option.isSome_iff_exists.mp hd
    obtain ⟨as, q⟩ := Dp.reads I p u v (r.dp hpy) rv
    refine ⟨(u, d) :: bs, by rw [List.map_cons, e1], by rw [List.map_cons, e2], .cons ⟨rv, r⟩ e3, .cons ⟨as, ?_⟩ e4⟩
    show Reads h' v (d.py.getD .none) as
    rw [hpy]
    exact PyProof.Rows.Reads.keeps k q
theorem each_back : ∀ {vs : List Value} {bs : List (V × D)}, EachIs (fun (v : Value) (b : V × D) => RelV b.1 v ∧ Rv X.K X.prog X.w π (Hide N H) b.1 b.2) vs bs → Vals (bs.map (·.1)) vs ∧ RvL X.K X.prog X.w π (Hide N H) (bs.map (·.1)) (bs.map (·.2))
  | _, _, .nil => ⟨.nil, .nil⟩
  | _, _, .cons h t => ⟨.cons h.1 (each_back t).1, .cons h.2 (each_back t).2⟩
theorem sorts_of {A : Around} {h' : Heap} {tk : Nat} {us : List V} {vs : List Value} {ds : List D} (hu : A.units + 60 < cLine) (I : Inv X pins σ H s) (k : ∀ b o, s.heap.get? b = some o → h'.get? b = some o) (r : RvL X.K X.prog X.w π (Hide N H) us ds) (rv : Vals us vs) {P : List D → Prop} (h : (sortD ds).all P) :
    ∃ κ, SortsAt X.prog X.w A { s with heap := h', toks := tk } κ vs ∧ vs.length ≤ sizeLine ∧ ∃ us' es, P es ∧ RvL X.K X.prog X.w π (Hide N H) us' es ∧ Vals us' (sortVals κ false vs vs) ∧ us'.length ≤ sizeLine := by
  unfold sortD at h
  cases c : isEmptyTup ds with
  | true =>
    rw [c] at h
    have ed : ds = [.tup []] := by
      unfold isEmptyTup at c
      split at c
      · rfl
      · cases c
    subst ed
    cases r with
    | @cons u d us' ds' r t =>
    cases t
    cases rv with
    | @cons _ v _ vs' q t =>
    cases t
    obtain ⟨as, q1⟩ := Dp.reads I (.tuple []) u v (r.dp rfl) q
    have q2 : Reads h' v (.tuple []) as := PyProof.Rows.Reads.keeps k q1
    refine ⟨dataKind h' [.tuple []], ⟨fun x hx => ?_, tuples' true, fun E x y a b Q ha hb hq => ?_, fun h2 => absurd h2 (by simp)⟩, (show 1 ≤ sizeLine by decide), [u], [.tup []], h, .cons r .nil, ?_, (show 1 ≤ sizeLine by decide)⟩
    · have ex : x = v := by simpa using hx
      subst ex
      exact ⟨_, dataKind_some (ds := [.tuple []]) (fun d hd d' hd' => by
        have e1 : d = .tuple [] := by simpa using hd
        have e2 : d' = .tuple [] := by simpa using hd'
        rw [e1, e2]; rfl) (List.mem_cons_self ..) q2⟩
    · obtain ⟨d, as, hd, ra, rfl⟩ := dataKind_inv ha
      obtain ⟨d', as', hd', rb, rfl⟩ := dataKind_inv hb
      have e1 : d = .tuple [] := by simpa using hd
      have e2 : d' = .tuple [] := by simpa using hd'
      subst e1 e2
      have hq' : Q (PyProof.Rows.lexLt itemOrd (keyToksAll []) (keyToksAll [])) { s with heap := h', toks := tk } := hq
      cases ra with
      | @tuple l o xs n _ _ h1 h2 h3 h4 =>
        cases rb with
        | @tuple l' o' xs' n' _ _ k1 k2 k3 k4 =>
          have n1 : xs.size = 0 := by simpa using SeqAt.ReadsAll.length _ _ _ h4
          have n2 : xs'.size = 0 := by simpa using SeqAt.ReadsAll.length _ _ _ k4
          exact kat_lt (s := { s with heap := h', toks := tk }) h1 h3 k1 k3 (katLex_alike (s := { s with heap := h', toks := tk }) [] [] 0 _ _ _ _ h4 k4 rfl (by show A.units + min 0 0 < cLine; omega) (fun _ _ x r t ex => nomatch ex) (by rw [n1, n2]; rfl) hq')
    · unfold sortVals
      rw [show ([v] : List Value).zip [v] = [(v, v)] from rfl, List.mergeSort_singleton]
      exact .cons q .nil
  | false =>
    rw [c] at h
    obtain ⟨ok, h⟩ := cond_all (show (cond (okSort ds) (T.ret (isort dLe ds)) .fail).all P from h)
    unfold okSort at ok
    simp only [Bool.and_eq_true] at ok
    obtain ⟨⟨⟨o1, o2⟩, o3⟩, o4⟩ := ok
    have o1' : ∀ d ∈ ds, d.py.isSome = true ∧ (pyOf d).depth ≤ 32 := fun d hd => by
      have := List.all_eq_true.mp o1 d hd
      simpa using this
    obtain ⟨bs, e1, e2, e3, e4⟩ := each_of (h' := h') I k r rv fun d hd => (o1' d hd).1
    have em : bs.map (fun b => pyOf b.2) = ds.map pyOf := by rw [← e2, List.map_map]; rfl
    have hal : AllAlike (bs.map fun b => pyOf b.2) := by rw [em]; exact alike_of o2
    have hk : Sortable (bs.map fun b => pyOf b.2) := by rw [em]; exact sortable_of o3
    have e5 := sortVals_data (enc := fun b : V × D => pyOf b.2) false e3 e4 hal
    obtain ⟨z1, z2⟩ := each_back e5
    have lz := small_ok r o4
    have lv : vs.length ≤ sizeLine := by rw [← rv.length]; exact lz
    have hu2 : ∀ d, d ∈ (bs.map fun b : V × D => pyOf b.2) → A.units + d.depth < cLine := fun p hp => by
      rw [em] at hp
      obtain ⟨d, hd, rfl⟩ := List.mem_map.mp hp
      have := (o1' d hd).2
      omega
    have es : (bs.mergeSort (dataLe false fun b : V × D => pyOf b.2)).map (·.2) = isort dLe ds := by
      rw [List.map_mergeSort (r := dataLe false fun b : V × D => pyOf b.2) (s := dLe) (f := fun b : V × D => b.2) (l := bs) (fun a _ b _ => rfl), e2]
      exact merge_isort (sortLe_total (listOrd itemOrd) false fun d => keyToks (pyOf d)) ds
    refine ⟨_, SortsAt.data (s := { s with heap := h', toks := tk }) (each_map (R := fun v d => ∃ as, Reads h' v d as) (fun b : V × D => pyOf b.2) e4) hal hk hu2, lv, _, _, h, by rw [← es]; exact z2, z1, ?_⟩
    rw [List.length_map, List.length_mergeSort]
    have := congrArg List.length e1
    rw [List.length_map] at this
    omega
def bSorted : List D → T (List D)
  | [.lst ds] => sortD ds
  | _ => .fail
theorem cs_sorted (hu : X.A.units + 64 < cLine) : CaSndL X (.builtin "sorted") bSorted := fun {π N H xs ds Q} hn r h => by
  unfold bSorted at h
  split at h
  · rename_i ds
    cases r with
    | cons r t =>
    cases t
    refine ⟨fun xs H Q => ∃ a us, xs = [.ref a] ∧ H a = some (.lst us) ∧ RvL X.K X.prog X.w π (Hide N H) us ds ∧ (sortD ds).all (Kl X π N H Q) ∧ HN π N H, ?_, ?_⟩
    · intro pins s σ H xs vs Q I r q
      obtain ⟨a, us, rfl, ha, ru, hq, hn⟩ := q
      obtain ⟨v, rfl, rx⟩ := vals1 r
      cases rx
      obtain ⟨its, rv, p, _⟩ := I.list (.inl (.inl ha))
      obtain ⟨κ, S, lz, us', es, hp, r2, rv2, l2⟩ := sorts_of (A := X.A.in1.in1) (h' := sortingHeap (copyHeap s.heap its) (s.heap.objs.size + 1) its) (tk := s.toks) (by rw [Around.in1_units, Around.in1_units]; omega) I (fun _ _ => sorting_copy_old) ru rv hq
      refine sorted_vals p.isList S lz ?_
      obtain ⟨c, hc⟩ := sortedAll_at s.heap its (sortVals κ false its its).toArray
      have hf : H (s.heap.objs.size + 1) = none := I.hok.fresh (Nat.le_succ _)
      exact ⟨.ref (s.heap.objs.size + 1), upd H (s.heap.objs.size + 1) (.lst us'), I.laid (t' := s.toks) (fun b u e => sortedAll_old e) (Nat.le_succ _) ⟨l2, _, c, rv2, hc⟩, rfl, Kl.new hp hn r2 hf⟩
    · obtain ⟨a, us, rfl, ha, _, _, ra⟩ := r.lstE
      exact ⟨a, us, rfl, ha, ra, h, hn⟩
  · exact False.elim h
theorem kdl_raw {prog : Program} {w : World} {d : Addr} {es : Array DictEntry} {ep : Nat} (lo : (d == sysModules) = false) : KdlSrc prog w "dict" d d es.size (fun i v => ∃ hi : i < es.size, v = es[i].key) (fun h => h.DictRaw d es ep) where
  type := fun _ hm => hm.typeIs
  there := fun _ hm => let ⟨_, ho, _⟩ := hm; ⟨Heap.lt_size ho, Heap.lt_size ho⟩
  keep := fun _ _ hm hk => hm.at fun o e => hk d (.inl rfl) o e
  notList := by decide
  notTuple := by decide
  hint := fun _ _ _ _ hm hq => kdl_hint_dict hm.typeIs hq
  iter := fun _ s hh hm => ⟨_, _, (fun _ _ hq => wpAny_pyIter_dict_raw lo hm hq), Walks.rawKeys hh _ d (let ⟨_, ho, _⟩ := hm; Nat.ne_of_lt (Heap.lt_size ho)) es ep, ⟨⟨_, Heap.get?_push_size _ rfl, rfl, rfl⟩, hm.at fun _ q => Heap.get?_push_of_some _ q⟩⟩
theorem vals_keys : ∀ {xs : List (NestedKey × Addr × V)} {us : List Value}, us.length = xs.length → (∀ (i : Nat) (x : NestedKey × Addr × V) (u : Value), xs[i]? = some x → us[i]? = some u → u = .ref x.2.1) → Vals (xs.map fun x => V.ref x.2.1) us
  | [], [], _, _ => .nil
  | x :: xs, u :: us, hl, h => by
    have e := h 0 x u rfl rfl
    subst e
    exact .cons rfl (vals_keys (by simpa using hl) fun i x u e1 e2 => h (i + 1) x u (by simpa using e1) (by simpa using e2))
  | [], _ :: _, hl, _ => by simp at hl
  | _ :: _, [], hl, _ => by simp at hl
theorem RvD.keysL {K : PySem.W.Frag} {P : Program} {w : World} {H : Hp} : ∀ {kvs : List (D × D)} {xs : List (NestedKey × Addr × V)}, RvD K P w π H xs kvs → RvL K P w π H (xs.map fun x => V.ref x.2.1) (kvs.map (·.1))
  | _, _, .nil => .nil
  | _, _, .cons _ _ rk _ t => .cons rk (RvD.keysL t)
def bSortedD : List D → T (List D)
  | [.dic kvs] => sortD (kvs.map (·.1))
  | _ => .fail
theorem cs_sortedD (hc : X.calm = true) (hu : X.A.units + 64 < cLine) : CaSndL X (.builtin "sorted") bSortedD := fun {π N H xs ds Q} hn r h => by
  unfold bSortedD at h
  split at h
  · rename_i kvs
    cases r with
    | cons r t =>
    cases t
    refine ⟨fun ys H Q => ∃ a od xs, ys = [.ref a] ∧ H a = some (.frz od (DN X.prog X.w a xs)) ∧ RvD X.K X.prog X.w π (Hide N H) xs kvs ∧ (sortD (kvs.map (·.1))).all (Kl X π N H Q) ∧ HN π N H, ?_, ?_⟩
    · intro pins s σ H ys vs Q I r q
      obtain ⟨a, od, xs, rfl, ha, rd, hq, hn⟩ := q
      obtain ⟨v, rfl, rx⟩ := vals1 r
      cases rx
      obtain ⟨lo, lz, zs, pr, dd⟩ := dn_of I (.inr ⟨od, ha⟩) ⟨_, _, _, rd⟩
      obtain ⟨es, ep, raw, hsz, ent⟩ := dd.raw
      have hl : xs.length = zs.length := Paired.length pr
      refine Calls.call_function_entry PyProof.Rows.kind_sorted PyProof.Rows.plain_sorted PyProof.Rows.entry_sorted (PyProof.Rows.args_sorted1 _) ?_
      unfold Builtin.«sorted»
      refine wpAny_bind (m := checkCount "sorted" 1 1 _) (wpAny_pure ?_)
      refine wpAny_bind (kdu_collect (A := X.A.in1) (kdl_raw lo) (I.ok.hd hc) raw (by omega) fun h' tk acc hk hacc => ?_)
      have hal : acc.toList.length = xs.length := by rw [Array.length_toList, hacc.1, hsz, hl]
      have rv : Vals (xs.map fun x => V.ref x.2.1) acc.toList := vals_keys hal fun i x u hx hu2 => by
        obtain ⟨y, hy, e1, e2, _⟩ := PX.get pr hx
        obtain ⟨hi, ek⟩ := hacc.2 i u (by rw [← Array.getElem?_toList]; exact hu2)
        obtain ⟨y', hy', k1, _, _⟩ := ent i hi
        rw [hy] at hy'
        cases hy'
        rw [ek, k1, e2]
      have I1 : Inv X pins σ H { s with heap := h', toks := tk } := I.kept hk
      refine wpAny_bind (wpAny_newList ?_ (by rw [hal]; exact lz))
      have hoL : (h'.push (seqObj "list" acc.toList.toArray 0)).get? h'.objs.size = some (seqObj "list" acc.toList.toArray 0) := Heap.get?_push_size _ rfl
      obtain ⟨κ, S, lz2, us', es', hp, r2, rv2, l2⟩ := sorts_of (A := X.A.in1.in1) (h' := sortingHeap (h'.push (seqObj "list" acc.toList.toArray 0)) h'.objs.size acc.toList) (tk := tk) (by rw [Around.in1_units, Around.in1_units]; omega) I
        (fun b o e => sortingHeap_old (Nat.ne_of_lt (Heap.lt_size (hk b o e))) (Heap.get?_push_of_some _ (hk b o e))) (RvD.keysL rd) rv hq
      show wpAny _ _ _ _ _ { s with heap := h'.push (seqObj "list" acc.toList.toArray 0), toks := tk }
      refine wpAny_bind (wpAny_holding (wpAny_call_entry PyProof.Rows.slot_list_sort ⟨_, hoL, rfl⟩ PyProof.Rows.entry_list_sort
        (list_sort_vals (s := { s with heap := h'.push (seqObj "list" acc.toList.toArray 0), toks := tk }) hoL S lz2 ⟨_, rfl, ?_⟩) (PyProof.Rows.args_list_sort _)))
      obtain ⟨e', he'⟩ := PyProof.Rows.sortedHeap_at (vs := acc.toList) (out := (sortVals κ false acc.toList acc.toList).toArray) hoL
      have hf : H h'.objs.size = none := I1.hok.fresh (Nat.le_refl _)
      refine wpAny_pure ⟨_, rfl, .ref h'.objs.size, upd H h'.objs.size (.lst us'), I1.laid (t' := tk) (fun b u e => ?_) (Nat.le_refl _)
        (show ObjOk X.prog X.w _ _ _ (.lst us') from ⟨l2, _, e', rv2, he'⟩), rfl, Kl.new hp hn r2 hf⟩
      have hb : b < h'.objs.size := Heap.lt_size e
      rw [PyProof.Rows.sortedHeap_old (Nat.ne_of_lt hb) (by rw [size_push']; exact Nat.lt_succ_of_lt hb)]
      exact Heap.get?_push_of_some _ e
    · obtain ⟨a, od, xs, rfl, ha, _, _, ra⟩ := r.dicE
      exact ⟨a, od, xs, rfl, ha, ra, h, hn⟩
  · exact False.elim h
end
end Pd

/-! tuple * 0, tuple * 1, () * n; calls by keywords alone; repr. -/
namespace Pd
open PySem L2 PySem.Spec PyProof.Rows

theorem mul_same (l : Addr) (items : Array Value) (n : Nat) (dd : Option Addr) (sl : Array (Option Value)) (x : Int) (u : Tok) (c0 : (decide (x < -(2 ^ 63)) || decide (x ≥ 2 ^ 63)) = false) (c1 : (items.isEmpty || x == 1) = true) :
    Meets (Builtin.«tuple.__mul__» ⟨[.ref l, .int x u], []⟩) (fun _ R s => s.heap.get? l = some { cls := .type "tuple", dict := dd, data := .seq items n, slots := sl } ∧ R (.ok (.ret (.ref l))) s) :=
  .of_wp fun prog w A R s h => by
    obtain ⟨hp, g, d, tk, os⟩ := s
    obtain ⟨hl, h⟩ := h
    have f1 := AutoSeq1.idx_int
    wp_walk using wpAny_loadPart' hl
    repeat (first
      | (refine wpAny_ite_false (decide_eq_false (by rw [c0]; exact Bool.false_ne_true)) ?_; wp_walk using wpAny_loadPart' hl)
      | (refine wpAny_ite_true (decide_eq_true c1) ?_; wp_walk using wpAny_loadPart' hl))
    exact ⟨_, rfl, h⟩
theorem mul_zero (l : Addr) (items : Array Value) (n : Nat) (dd : Option Addr) (sl : Array (Option Value)) (x : Int) (u : Tok) (c0 : (decide (x < -(2 ^ 63)) || decide (x ≥ 2 ^ 63)) = false) (c1 : (items.isEmpty || x == 1) = false) (c2 : (decide (x ≤ 0) || items.isEmpty) = true) :
    Meets (Builtin.«tuple.__mul__» ⟨[.ref l, .int x u], []⟩) (fun _ R s => s.heap.get? l = some { cls := .type "tuple", dict := dd, data := .seq items n, slots := sl } ∧
      R (.ok (.ret (.ref s.heap.objs.size))) { s with heap := s.heap.push { cls := .type "tuple", data := .seq #[] }, toks := s.toks }) :=
  .of_wp fun prog w A R s h => by
    obtain ⟨hp, g, d, tk, os⟩ := s
    obtain ⟨hl, h⟩ := h
    have f1 := AutoSeq1.idx_int
    wp_walk using wpAny_loadPart' hl
    repeat (first
      | (refine wpAny_ite_false (decide_eq_false (by rw [c0]; exact Bool.false_ne_true)) ?_; wp_walk using wpAny_loadPart' hl)
      | (refine wpAny_ite_false (decide_eq_false (by rw [c1]; exact Bool.false_ne_true)) ?_; wp_walk using wpAny_loadPart' hl)
      | (refine wpAny_ite_true (decide_eq_true c2) ?_; wp_walk using wpAny_loadPart' hl))
    exact ⟨_, rfl, h⟩
section
variable {X : Cx}
theorem op_repS : OpR X (binaryOp .Mult) (fun x y H Q => ∃ l k xs, x = .ref l ∧ y = .int k ∧ SqT X.K H l xs ∧ -1000 ≤ k ∧ k ≤ 1000 ∧ (((xs = [] ∨ k = 1) ∧ Q (.ref l) H) ∨ (xs ≠ [] ∧ k ≤ 0 ∧ ∀ p, H p = none → Q (.ref p) (upd H p (.tup []))))) := by
  intro pins s σ H x y v u Q I rx ry h
  obtain ⟨l, k, xs, rfl, rfl, hT, h1, h2, hq⟩ := h
  cases rx
  obtain ⟨t, rfl⟩ := ry
  obtain ⟨its, r, ⟨⟨cls, dd, data, sl⟩, ho, hc, n, hd⟩, hs⟩ := I.tuple hT
  simp only at hc hd
  subst hc hd
  have hle : its.length = xs.length := r.length.symm
  have c0 : (decide (k < -(2 ^ 63)) || decide (k ≥ 2 ^ 63)) = false := by
    rw [decide_eq_false (by omega), decide_eq_false (by omega)] <;> rfl
  have nilI : xs = [] → its = [] := fun e => List.eq_nil_of_length_eq_zero (by rw [hle, e]; rfl)
  rcases hq with ⟨e, q⟩ | ⟨e, k0, q⟩
  · have c1 : (its.toArray.isEmpty || k == 1) = true := by
      rcases e with e | e
      · rw [nilI e]; rfl
      · rw [e, beq_self_eq_true, Bool.or_true]
    exact wpAny_binaryOp_repeat_ref (T := "tuple") (U := "int") (by decide) ⟨_, ho, rfl⟩ (fun s' => typeIs_int s' k t) noFill_tuple_mul F.fills_int_mul F.slot_int_rmul repeat_tuple F.slot_int_index.lookup
      (call_meets F.slot_int_rmul (typeIs_int s k t) F.entry_int_rmul (F.args_int_rmul_2 _ _) (int_rmul_tuple k t l its.toArray n dd sl)
        ⟨ho, rfl, ⟨_, ho, rfl⟩, call_meets F.slot_tuple_mul ⟨_, ho, rfl⟩ F.entry_tuple_mul (F.args_tuple_mul_2 _ _) (mul_same l its.toArray n dd sl k t c0 c1) ⟨ho, .ref l, H, I, rfl, q⟩⟩)
  · have hn : its ≠ [] := fun z => e (List.eq_nil_of_length_eq_zero (by rw [← hle, z]; rfl))
    have hi : its.toArray.isEmpty = false := by
      cases its with
      | nil => exact absurd rfl hn
      | cons a b => rfl
    have c1 : (its.toArray.isEmpty || k == 1) = false := by
      rw [hi, Bool.false_or]
      exact beq_eq_false_iff_ne.mpr (by omega)
    have c2 : (decide (k ≤ 0) || its.toArray.isEmpty) = true := by
      rw [decide_eq_true k0, Bool.true_or]
    exact wpAny_binaryOp_repeat_ref (T := "tuple") (U := "int") (by decide) ⟨_, ho, rfl⟩ (fun s' => typeIs_int s' k t) noFill_tuple_mul F.fills_int_mul F.slot_int_rmul repeat_tuple F.slot_int_index.lookup
      (call_meets F.slot_int_rmul (typeIs_int s k t) F.entry_int_rmul (F.args_int_rmul_2 _ _) (int_rmul_tuple k t l its.toArray n dd sl)
        ⟨ho, rfl, ⟨_, ho, rfl⟩, call_meets F.slot_tuple_mul ⟨_, ho, rfl⟩ F.entry_tuple_mul (F.args_tuple_mul_2 _ _) (mul_zero l its.toArray n dd sl k t c0 c1 c2)
          ⟨ho, .ref s.heap.objs.size, _, I.laid (t' := s.toks) (o := .tup []) (fun b ob q => Heap.get?_push_of_some _ q) (Nat.le_refl _) ⟨Nat.zero_le _, [], .nil, IsTup.new _ _⟩, rfl, q _ (I.hok.fresh (Nat.le_refl _))⟩⟩)
/-- tuple * int, any -/
def opMulT : D → D → T D
  | .tup a, .int k => cond (a.isEmpty || decide (k = 1)) (cond (decide (-1000 ≤ k) && decide (k ≤ 1000)) (.ret (.tup a)) .fail) (cond (decide (k ≤ 0)) (cond (decide (-1000 ≤ k)) (.ret (.tup [])) .fail) (opMul (.tup a) (.int k)))
  | x, y => opMul x y
theorem os_mulT : OpSnd X (binaryOp .Mult) opMulT := fun {π N H x y dx dy Q} hn rx ry h => by
  unfold opMulT at h
  split at h
  · rename_i ds k
    cases c : (ds.isEmpty || decide (k = 1)) with
    | true =>
      rw [c] at h
      obtain ⟨hb, h⟩ := cond_all (show (cond (decide (-1000 ≤ k) && decide (k ≤ 1000)) (T.ret (D.tup ds)) .fail).all _ from h)
      simp only [Bool.and_eq_true, decide_eq_true_eq] at hb
      obtain ⟨a, vs, rfl, ha, ra⟩ := id rx.tupE
      cases ry
      refine ⟨_, op_repS, a, k, vs, rfl, rfl, ha, hb.1, hb.2, .inl ⟨?_, h _ _ (Ex.refl hn.pot) rx⟩⟩
      rcases Bool.or_eq_true_iff.mp c with z | z
      · exact .inl (ra.nil_of.mpr (by simpa using z))
      · exact .inr (of_decide_eq_true z)
    | false =>
      rw [c] at h
      cases c2 : decide (k ≤ 0) with
      | true =>
        rw [c2] at h
        obtain ⟨hb, h⟩ := cond_all (show (cond (decide (-1000 ≤ k)) (T.ret (D.tup [])) .fail).all _ from h)
        have k0 := of_decide_eq_true c2
        obtain ⟨a, vs, rfl, ha, ra⟩ := id rx.tupE
        cases ry
        refine ⟨_, op_repS, a, k, vs, rfl, rfl, ha, of_decide_eq_true hb, by omega, .inr ⟨fun e => ?_, k0, fun p hp => Kd.new h hn .nil hp⟩⟩
        rw [ra.nil_of.mp e] at c
        cases c
      | false =>
        rw [c2] at h
        exact os_mul hn rx ry h
  · exact os_mul hn rx ry h
end

/-! ### calls by keywords alone -/
def pickD (perm : List Nat) (ds : List D) : List D := perm.map fun i => ds.getD i .non
def KBind (K : PySem.W.Frag) (fd : FuncData) (ps ks : List Str) (perm : List Nat) : Prop := ∀ (s : Shared) (us : List Value), K.In s.heap → us.length = ks.length → BindsTo s fd ⟨[], ks.zip us⟩ (ps.zip (perm.map fun i => us.getD i .none))
def eCallK (n : Nat) (perm : List Nat) (F : List D → T D) (ms : Rho → T (List D)) : Rho → T D := fun ρ => (ms ρ).bind fun ds => cond (ds.length == n) (F (pickD perm ds)) .fail
theorem vals_pick {vs : List V} {us : List Value} (r : Vals vs us) : ∀ perm : List Nat, Vals (perm.map fun i => vs.getD i .non) (perm.map fun i => us.getD i .none)
  | [] => .nil
  | i :: perm => by
    refine .cons ?_ (vals_pick r perm)
    show RelV (vs.getD i .non) (us.getD i .none)
    rw [List.getD_eq_getElem?_getD, List.getD_eq_getElem?_getD]
    cases q : vs[i]? with
    | none =>
      have : us[i]? = none := List.getElem?_eq_none (by have := List.getElem?_eq_none_iff.mp q; rw [← r.length]; exact this)
      rw [this]
      rfl
    | some v =>
      obtain ⟨u, hu, ru⟩ := r.get q
      rw [hu]
      exact ru
theorem rvl_pick {K : PySem.W.Frag} {P : Program} {w : World} {π : Addr} {H : Hp} {vs : List V} {ds : List D} (r : RvL K P w π H vs ds) : ∀ perm : List Nat, RvL K P w π H (perm.map fun i => vs.getD i .non) (pickD perm ds)
  | [] => .nil
  | i :: perm => by
    refine .cons ?_ (rvl_pick r perm)
    show Rv K P w π H (vs.getD i .non) (ds.getD i .non)
    rw [List.getD_eq_getElem?_getD, List.getD_eq_getElem?_getD]
    cases q : ds[i]? with
    | none =>
      have : vs[i]? = none := List.getElem?_eq_none (by have := List.getElem?_eq_none_iff.mp q; rw [r.length]; exact this)
      rw [this]
      exact .non
    | some d =>
      obtain ⟨v, hv, rv⟩ := r.get q
      rw [hv]
      exact rv
section
variable {X : Cx} {pos : Pos}
theorem s_callK {k n : Nat} {f : Addr} {fd : FuncData} {ps ks : List Str} {perm : List Nat} {F : List D → T D} {x : Str} {p : Pos} {kws : List Keyword} {ms : Rho → T (List D)} (G : FnOk X.prog X.w X.K X.mg X.base CX0 k f fd ps (spD X.K X.prog X.w n F)) (hr : Room k X.A) (hm : X.mg x = some (.ref f)) (hk : PySem.W.keepIn X.K (.ref f) = true)
    (hb : KBind X.K fd ps ks perm) (hp : perm.length = n) (hkn : ks.length = n) (ha : SndK X kws ms) (hg : Gl X x := by rfl) (hall : (backToKw pos (keywordEach kws X.env)).all (·.1.isSome) = true := by rfl) (hks : (backToKw pos (keywordEach kws X.env)).filterMap (·.1) = ks := by rfl)
    (hdb : (x == ("__debug__" : Str)) = false := by decide) (hpl : ((backTo pos (starEach [] X.env)).any (·.1) || (backToKw pos (keywordEach kws X.env)).any (·.1.isNone)) = false := by rfl) : Snd X (.Call (.Name x p) [] kws pos) (eCallK n perm F ms) := fun {π N0 H0 N H σ ρ Q} I h => by
  refine ⟨fun σ H Q => wpK X kws σ H fun zs H2 => zs.length = n ∧ spD X.K X.prog X.w n F (perm.map fun i => zs.getD i .non) H2 Q E0, ⟨fun pins s σ H Q J q => ?_⟩, ?_⟩
  · refine wpAny_Call_Name_kw (ld_glob J hg hm ?_ hdb)
    refine PySem.W.callWith_KW0 (h₀ := X.base) J.ok.mod.kin hk hall (thn (pk_wp.run pos pins s σ H _ J q) fun ws s2 ⟨zs, H2, I2, rz, hz, q2⟩ => ⟨I2.kIn, ?_⟩) hpl
    rw [hks]
    show wpAny _ _ (call (.ref f) [] (ks.zip ws)) _ _ _
    have r2 := vals_pick rz perm
    refine wpAny_call (codeAny_mono (G.run X.A X.stack s2 H2 ⟨[], ks.zip ws⟩ _ _ Q E0 hr I2.env0 (hb s2 ws I2.kIn (by rw [← rz.length, hz, hkn])) r2 q2) fun r s' hq => ?_)
    cases r with
    | error e => exact pass0 pins σ H2 s2 e s' I2 hq
    | ok fl =>
      cases fl with
      | ret u => exact I2.after hq
      | next => exact False.elim hq
      | brk => exact False.elim hq
      | cont => exact False.elim hq
  · refine ha I (T.all_mono (fun ds hd => ?_) (T.all_bind.mp h))
    intro vs H2 e1 r
    obtain ⟨hn, hd⟩ := cond_all hd
    have hn : ds.length = n := by simpa using hn
    exact ⟨by rw [r.length]; exact hn, π, N, pickD perm ds, I.hn.ext e1, rvl_pick r perm, by rw [List.length_map]; exact hp, T.all_mono (fun d q v H3 e3 r3 => q v H3 (e1.trans e3) r3) hd⟩
/-! ### repr of lists of data -/
def bRepr : List D → T D
  | [.lst ds] => match D.py (.lst ds) with
    | some p => cond (p.showable && !p.hasDict && decide (p.depth ≤ 32) && decide (p.shown.length ≤ 100000)) (.ret (.str p.shown)) .fail
    | none => .fail
  | _ => .fail
theorem cs_repr (hg : X.A.guards = some []) (hu : X.A.units + 64 < cLine) : CaSnd X (.builtin "repr") bRepr := fun {π N H xs ds Q} hn r h => by
  unfold bRepr at h
  split at h
  · rename_i ds
    split at h
    · rename_i p hp
      obtain ⟨hb, h⟩ := cond_all h
      simp only [Bool.and_eq_true, Bool.not_eq_true', decide_eq_true_eq] at hb
      obtain ⟨⟨⟨b1, b2⟩, b3⟩, b4⟩ := hb
      cases r with
      | cons r t =>
      cases t
      refine ⟨fun ys H Q => ∃ a, ys = [.ref a] ∧ Dp X.K H (.ref a) p ∧ Q (.str p.shown) H, ?_, ?_⟩
      · intro pins s σ H ys vs Q I r q
        obtain ⟨a, rfl, hd, hq⟩ := q
        obtain ⟨v, rfl, rx⟩ := vals1 r
        cases rx
        obtain ⟨as, rd⟩ := Dp.reads I p (.ref a) (.ref a) hd rfl
        exact repr_of_reads' rd b1 (PyData.noDict_hsm b2) hg (by omega) (fun _ _ q => q) (fun h' u tk hk => ⟨.str p.shown, H, I.kept (t' := tk) hk, ⟨u, rfl⟩, hq⟩) (Nat.le_trans b4 (by decide))
      · obtain ⟨a, vs, rfl, ha, _, _, ra⟩ := id r.lstE
        exact ⟨a, rfl, r.dp hp, h _ _ (Ex.refl hn.pot) (.str _)⟩
    · exact False.elim h
  · exact False.elim h
end
end Pd

/-! Promises of defs that are called where no object's repr is under way. -/
namespace Pd
open PySem L2 PySem.Spec PyProof.Rows

structure FnG (P : Program) (w : World) (K : PySem.W.Frag) (mg : Str → Option Value) (base : Heap) (CX : CXT) (k : Nat) (f : Addr) (fd : FuncData) (ps : List Str) (sp : Sp) : Prop where
  len : ∀ zs Hx Qx Ex, sp zs Hx Qx Ex → zs.length = ps.length
  run : ∀ (A : Around) (out : List Env) (s : Shared) (H : Hp) (as : Args) (us : List Value) (vs : List V) (Q : VK) (E : XK), Room k A → A.guards = some [] → Env0 P w K mg base A out s H → BindsTo s fd as (ps.zip us) → Vals vs us → sp vs H Q E →
    codeAny (model P w) A (.call (.ref f) as) (CR CX out P w H s Q E) s
theorem fnG_of {CX : CXT} {P : Program} {w : World} {K : PySem.W.Frag} {mg : Str → Option Value} {base : Heap} {k : Nat} {f : Addr} {name qual : Str} {params : Arguments} {body : List Stmt} {scope : Scope} {dV kV doc pm cdv ct oc : Value} {an od : Option Addr}
    {osl : Array (Option Value)} {Nm ps : List Str} {sp : Sp} (lk : K.lookup f = some ⟨oc, od, .func (PySem.W.fnOf name qual params body scope dV kV doc pm an cdv ct), osl⟩) (hcd : PySem.W.codeIn K cdv qual = true) (S : FnScope Nm ps scope)
    (len : ∀ zs Hx Qx Ex, sp zs Hx Qx Ex → zs.length = ps.length)
    (hb : ∀ (A : Around) (out : List Env) (s : Shared) (H : Hp) (vs : List V) (Q : VK) (E : XK), Room k (A.deeper (envOfC qual scope s.heap.objs.size f cdv)) → A.guards = some [] → sp vs H Q E →
      ∃ t, PSs (cxOf CX P w K mg base Nm qual scope f cdv A out s H E) body t ∧ t { nx := fun _ H1 => Q .non H1, rt := Q } (start Nm vs) H) :
    FnG P w K mg base CX (k + 1) f (PySem.W.fnOf name qual params body scope dV kV doc pm an cdv ct) ps sp := by
  refine ⟨len, fun A out s H as us vs Q E hr hgd e0 hbd r hsp => ?_⟩
  have hl := len _ _ _ _ hsp
  have hK : K.In s.heap := e0.mod.kin.keeps fun b o e => (e0.bs b o e).1
  have hnl : s.heap.NoLimit := e0.mod.nolimit.keeps fun b o e => (e0.bs b o e).1
  have hkd : ∀ y ∈ ps.zip us, scope.names.lookup y.1 = some .local ∨ (scope.names.lookup y.1 = some .cell ∧ ((cellsFrom (s.heap.objs.size + 1) scope.names []).lookup y.1).isSome = true) := by
    intro ⟨n, v⟩ hy
    rcases S.par n (List.of_mem_zip hy).1 with q | q
    · exact Or.inl q
    · exact Or.inr ⟨q, PySem.W.cellsFrom_some _ _ _ (.inl q)⟩
  refine codeAny_call_function hr.depth (hK _ _ lk) rfl S.co S.gen rfl (PySem.W.codeRec_of hK hcd) (hbd _ _ _ _ (wpAny_newFunctionEnv_cells S.kind hkd fun env he s1 x => ?_))
  subst he
  refine ⟨hnl.keeps x.toInCall.keep, codeAny_func ?_⟩
  obtain ⟨t, ht, hq⟩ := hb A out s H vs Q E (hr.deeper _) hgd hsp
  have J0 := inv_start (E := E) (CX := CX) S hr.hd e0 hl r x
  refine wpAny_mono (ht.run [] s1 (start Nm vs) H _ J0 hq) (fun fl s2 hs => ?_) fun _ _ z => z
  cases fl with
  | ret u =>
    obtain ⟨v, σ2, H2, J, rv, q⟩ := hs
    exact ⟨v, H2, J.os, J.bare, J.base, J.hok, rv, q⟩
  | next =>
    obtain ⟨σ2, H2, J, q⟩ := hs
    exact ⟨V.non, H2, J.os, J.bare, J.base, J.hok, rfl, q⟩
  | brk =>
    obtain ⟨_, _, _, q⟩ := hs
    exact q.elim
  | cont =>
    obtain ⟨_, _, _, q⟩ := hs
    exact q.elim
section
variable {P : Program} {w : World} {K : PySem.W.Frag} {mg : Str → Option Value} {base : Heap}
theorem okG {x qual : Str} {st : Stmt} {f : Addr} {fd : FuncData} {Nm ps : List Str} {k : Nat} {sp : Sp} (F : Fun K x qual st f fd) (S : FnScope Nm ps (defScope st)) (len : ∀ zs Hx Qx Ex, sp zs Hx Qx Ex → zs.length = ps.length)
    (hb : ∀ (cdv : Value) (A : Around) (outer : List Env) (s : Shared) (H : Hp) (vs : List V) (Q : VK) (E : XK), Room k (A.deeper (PyProof.Rows.envOfC qual (defScope st) s.heap.objs.size f cdv)) → A.guards = some [] → sp vs H Q E →
      ∃ t, PSs (cxOf CX0 P w K mg base Nm qual (defScope st) f cdv A outer s H E).nox (defBody st) t ∧ t { nx := fun _ H1 => Q .non H1, rt := Q } (start Nm vs) H) : FnG P w K mg base CX0 (k + 1) f fd ps sp := by
  obtain ⟨oc, od, kV, doc, pm, an, cdv, ct, osl, rfl, lk, hcd⟩ := F.ex
  refine fnG_of lk hcd S len fun A outer s H vs Q E hr hgd h => ?_
  obtain ⟨t, ht, hq⟩ := hb cdv A outer s H vs Q E hr hgd h
  exact ⟨t, ht.nox, hq⟩
theorem fnG_ok {x qual : Str} {st : Stmt} {f : Addr} {fd : FuncData} {Nm ps : List Str} {k n p : Nat} {m : Rho → T Out} {G : List D → T D} (F : Fun K x qual st f fd) (S : FnScope Nm ps (defScope st)) (hn : Nm.length = n) (hp : ps.length = p) (hG : G = runB n m)
    (hb : ∀ (cdv : Value) (A : Around) (outer : List Env) (s : Shared) (H : Hp) (E : XK), Room k (A.deeper (PyProof.Rows.envOfC qual (defScope st) s.heap.objs.size f cdv)) → A.guards = some [] → SndB (cxOf CX0 P w K mg base Nm qual (defScope st) f cdv A outer s H E).nox (defBody st) m) :
    FnG P w K mg base CX0 (k + 1) f fd ps (spD K P w p G) := by
  subst hn hp hG
  obtain ⟨oc, od, kV, doc, pm, an, cdv, ct, osl, rfl, lk, hcd⟩ := F.ex
  refine fnG_of lk hcd S (fun vs H Q E h => ?_) (fun A outer s H vs Q E hr hgd h => ?_)
  · obtain ⟨π, N, ds, hn, r, hl, _⟩ := h
    exact hl
  · obtain ⟨π, N, ds, hn, r, hl, hall⟩ := h
    have z := hb cdv A outer s H E hr hgd (De := { nx := fun _ H' => Q .non H', rt := Q }) (env_start hn r) (T.all_mono (fun o ho => by
      cases o with
      | nx ρ => exact fun N' H' σ' I => ho .non H' ⟨I.ex, I.hn.pot⟩ .non
      | rt d => exact fun v H' e r => ho v H' e r
      | bk ρ => exact False.elim ho
      | ct ρ => exact False.elim ho) (T.all_bind.mp hall))
    obtain ⟨t, ht, hq⟩ := z
    exact ⟨t, ht.nox, hq⟩
end
section
variable {X : Cx} {e : Expr} {es : List Expr} {pos : Pos}
theorem pe_callG {k : Nat} {f : Addr} {fd : FuncData} {ps : List Str} {sp : Sp} {x : Str} {p : Pos} {t : TA} (G : FnG X.prog X.w X.K X.mg X.base CX0 k f fd ps sp) (hr : Room k X.A) (hgd : X.A.guards = some []) (hm : X.mg x = some (.ref f)) (hk : PySem.W.keepIn X.K (.ref f) = true) (hb : Binds X.K fd ps [])
    (ha : PA X (e :: es) t) (hg : Gl X x := by rfl) (hdb : (x == ("__debug__" : Str)) = false := by decide) (he : starEach (e :: es) X.env = (false, eval e X.env) :: starEach es X.env := by rfl) (hpl : (backTo pos (starEach es X.env)).any (·.1) = false := by rfl) :
    PE X (.Call (.Name x p) (e :: es) [] pos) (fun σ H Q => t σ H fun zs H2 => sp zs H2 Q E0) := by
  refine ⟨fun pins s σ H Q J q => ?_⟩
  refine wpAny_Call_Name_kw (ld_glob J hg hm ?_ hdb)
  refine PySem.W.callWith_K (h₀ := X.base) J.ok.mod.kin hk (thn (ha.run pos pins s σ H _ J q) fun us s1 ⟨vs, H1, I1, r, q⟩ => ⟨I1.kIn, ?_⟩) he hpl
  have hl : us.length = ps.length := by rw [← r.length]; exact G.len _ _ _ _ q
  have b0 := hb s1 us I1.kIn (by rw [List.append_nil]; exact hl)
  rw [List.append_nil] at b0
  show wpAny _ _ (call (.ref f) us) _ _ _
  refine wpAny_call (codeAny_mono (G.run X.A X.stack s1 H1 ⟨us, []⟩ us vs Q E0 hr hgd I1.env0 b0 r q) fun r s' hq => ?_)
  cases r with
  | error e => exact pass0 pins σ H1 s1 e s' I1 hq
  | ok fl =>
    cases fl with
    | ret u => exact I1.after hq
    | next => exact False.elim hq
    | brk => exact False.elim hq
    | cont => exact False.elim hq
theorem s_callG {k n : Nat} {f : Addr} {fd : FuncData} {ps : List Str} {F : List D → T D} {x : Str} {p : Pos} {ms : Rho → T (List D)} (G : FnG X.prog X.w X.K X.mg X.base CX0 k f fd ps (spD X.K X.prog X.w n F)) (hr : Room k X.A) (hgd : X.A.guards = some []) (hm : X.mg x = some (.ref f)) (hk : PySem.W.keepIn X.K (.ref f) = true) (hb : Binds X.K fd ps [])
    (ha : SndA X (e :: es) ms) (hg : Gl X x := by rfl) (hdb : (x == ("__debug__" : Str)) = false := by decide) (he : starEach (e :: es) X.env = (false, eval e X.env) :: starEach es X.env := by rfl) (hpl : (backTo pos (starEach es X.env)).any (·.1) = false := by rfl) :
    Snd X (.Call (.Name x p) (e :: es) [] pos) (eCall n F ms) := fun {π N0 H0 N H σ ρ Q} I h =>
  ⟨_, pe_callG G hr hgd hm hk hb pa_wp hg hdb he hpl, ha I (T.all_mono (fun ds hd vs H2 e1 r => by
    obtain ⟨hn, hd⟩ := cond_all hd
    exact ⟨π, N, ds, I.hn.ext e1, r, by rw [r.length]; exact by simpa using hn, T.all_mono (fun d q v H3 e3 r3 => q v H3 (e1.trans e3) r3) hd⟩) (T.all_bind.mp h))⟩
end
/-! ### the law is called -/
theorem law_callG {P : Program} {w : World} {K : PySem.W.Frag} {mg mb : Str → Option Value} {k : Nat} {fa a : Addr} {fd : FuncData} {x : Str} {sp : Sp} {s0 : Shared} {vs : List Value} {ns : List Int}
    (hK : K.In s0.heap) (hns : s0.heap.Ns mainGlobals mg) (hb : s0.heap.Ns builtinsNs mb) (hbb : ∀ x : Str, x ≠ "__name__" → mb x = bootBuiltins x) (hlim : s0.heap.NoLimit) (hg : s0.gens = #[])
    (ha : s0.heap.get? a = some { cls := .type "list", data := .seq vs.toArray }) (hi : IntsAre vs ns) (hl : ns.length ≤ sizeLine) (hr : Room k callerA)
    (F : ∀ base : Heap, K.In base → base.Ns mainGlobals mg → FnG P w K mg base CX0 k fa fd [x] sp) (hbind : ∀ (s : Shared) (u : Value), BindsTo s fd ⟨[u], []⟩ [(x, u)])
    (hsp : ∀ H : Hp, Only H → SqL K H a (ns.map V.int) → sp [.ref a] H (fun v _ => v = .bl true) fun _ _ _ => False) :
    codeAny (model P w) callerA (.call (.ref fa) ⟨[.ref a], []⟩) (fun r s2 => r = .ok (.ret (.bool true)) ∧ OldK s0.heap s2.heap ∧ s2.os = s0.os ∧ AllBare s2.gens) s0 := by
  have rv := vals_ints hi
  have hvl := hi.length
  -- H tracks the script at most
  have main : ∀ H : Hp, Only H → SqL K H a (ns.map V.int) → HOk P w H s0.heap → (∀ b, H b ≠ none → b = a) → (H a ≠ none → K.lookup a = none) →
      codeAny (model P w) callerA (.call (.ref fa) ⟨[.ref a], []⟩) (fun r s2 => r = .ok (.ret (.bool true)) ∧ OldK s0.heap s2.heap ∧ s2.os = s0.os ∧ AllBare s2.gens) s0 := by
    intro H hO hS hok hA hn
    have old : ∀ {b : Addr} {o : Obj}, s0.heap.get? b = some o → H b = none → (hidT s0.heap H).get? b = some o := fun e n => hidT_get e n
    have dicts : ∀ {b : Addr} {o : Obj} {es : Array DictEntry} {ep : Nat}, s0.heap.get? b = some o → o.data = .dict es ep → H b = none := by
      intro b o es ep e d
      cases q : H b with
      | none => rfl
      | some u =>
        have eb := hA b (by rw [q]; simp)
        rw [eb, ha] at e
        cases e
        exact absurd d (fun z => by cases z)
    have spaces : ∀ {b : Addr} {m : Str → Option Value}, s0.heap.Ns b m → (hidT s0.heap H).Ns b m := fun ⟨o, es, ep, e, d, r⟩ => ⟨o, es, ep, old e (dicts e d), d, r⟩
    have kin : K.In (hidT s0.heap H) := fun b o e => old (hK b o e) (by
      cases q : H b with
      | none => rfl
      | some u =>
        have eb := hA b (by rw [q]; simp)
        rw [eb] at q e
        rw [hn (by rw [q]; simp)] at e
        cases e)
    have md : Mod K mg (hidT s0.heap H) := ⟨kin, spaces hns, ⟨mb, spaces hb, hbb⟩, let ⟨mc, h1, h2⟩ := hlim; ⟨mc, spaces h1, h2⟩⟩
    have e0 : Env0 P w K mg (hidT s0.heap H) callerA [] s0 H := ⟨rfl, md, fun b o e => of_hidT e, Nat.le_of_eq (hidT_size _ _), trivial, fun b hb => absurd (show b ∈ ([] : List Addr) from hb) (by simp), hok, .of_eq hg⟩
    refine codeAny_mono ((F _ kin (spaces hns)).run callerA [] s0 H ⟨[.ref a], []⟩ [.ref a] [.ref a] _ _ hr rfl e0 (hbind s0 (.ref a)) (.cons rfl .nil) (hsp H hO hS)) fun r s2 h => ?_
    cases r with
    | error e => exact False.elim h
    | ok fl =>
      cases fl with
      | ret u =>
        obtain ⟨v, H2, os, bare, un, hok2, rr, q⟩ := h
        cases (show v = .bl true from q)
        cases (show u = Value.bool true from rr)
        refine ⟨rfl, OldK.of_keep fun b o e => ?_, os, bare⟩
        cases q : H b with
        | none => exact un.keep b o e q (by simp [frs]) (by simp)
        | some u =>
          rcases hO b with z | ⟨ob, xs, z⟩
          · rw [q] at z; cases z
          · obtain ⟨g1, _⟩ := hok b _ z
            obtain ⟨g2, _⟩ := hok2 b _ (un.frzs b ob _ z)
            rw [e] at g1
            cases g1
            exact g2
      | next => exact False.elim h
      | brk => exact False.elim h
      | cont => exact False.elim h
  cases hk : K.lookup a with
  | some o =>
    have e := hK a o hk
    rw [ha] at e
    cases e
    exact main (fun _ => none) (fun _ => .inl rfl) (.inr ⟨_, vs.toArray, _, hk, rfl, rfl, rfl, by rw [List.size_toArray, hvl]; exact hl, by simpa using rv⟩) (fun b u z => nomatch (show (none : Option HO) = some u from z)) (fun b z => absurd rfl z) fun z => absurd rfl z
  | none =>
    let H : Hp := fun b => if b = a then some (.frz { cls := .type "list", data := .seq vs.toArray } (.lst (ns.map V.int))) else none
    have at_a : H a = some (.frz { cls := .type "list", data := .seq vs.toArray } (.lst (ns.map V.int))) := if_pos rfl
    have off : ∀ b, b ≠ a → H b = none := fun b nb => if_neg nb
    refine main H (fun b => ?_) (.inl (.inr ⟨_, at_a⟩)) (fun b u z => ?_) (fun b z => ?_) fun _ => hk
    · by_cases q : b = a
      · exact .inr ⟨_, _, by rw [q]; exact at_a⟩
      · exact .inl (off b q)
    · by_cases q : b = a
      · subst q
        rw [at_a] at z
        cases z
        exact ⟨ha, by rw [List.length_map]; exact hl, vs, _, rv, ha⟩
      · rw [off b q] at z; cases z
    · by_cases q : b = a
      · exact q
      · exact absurd (off b q) z
theorem walkG {l : PySem.W.OpenLaw} {n k : Nat} {q : Program} {loose : List Str} {XP : (Str → Option Value) → Heap → Prop} {YP : World → Heap → Prop} {d : DefRec} {K : Params → PySem.W.Frag} {sp : World → Sp} {x : Str}
    (hn : l.most = some n) (hn2 : n ≤ sizeLine) (hdf : d.params.defaults = []) (hr : Room k callerA) (hY : ∀ (w : World) (h : Heap), YP w h → (K w.params).In h)
    (F : ∀ (w : World) (mg : Str → Option Value) (fa : Addr) (h : Heap), (K w.params).In h → h.Ns mainGlobals mg → mg d.name = some (.ref fa) →
      ∃ fd : FuncData, (∀ (s : Shared) (u : Value), BindsTo s fd ⟨[u], []⟩ [(x, u)]) ∧ ∀ base : Heap, (K w.params).In base → base.Ns mainGlobals mg → FnG l.prog w (K w.params) mg base CX0 k fa fd [x] (sp w))
    (hsp : ∀ (w : World) (H : Hp) (a : Addr) (ns : List Int), ns.length ≤ n → Only H → SqL (K w.params) H a (ns.map V.int) → sp w [.ref a] H (fun v _ => v = .bl true) fun _ _ _ => False) :
    PySem.W.WalkO q loose XP YP l.row.toRowW d [] (fun f vs => PySem.call f vs) := by
  refine Att.attach_call hn hdf fun w s₀ s₁ mg mb fa o pm cd doc a vs ns G Y ho hd hcd hmg hobj hints hlen hg => ?_
  have kx := hY w _ Y
  obtain ⟨fd, hb, hF⟩ := F w mg fa _ kx G.T.g hmg
  exact law_callG kx G.T.g G.T.b G.T.builtins G.T.nolimit hg hobj hints (Nat.le_trans hlen hn2) hr hF hb fun H hO hS => hsp w H a ns hlen hO hS
/-! draws -/
def f__law_draw : List D → T D
  | [.pot, .int n] => cond (decide (0 < n) && decide (n ≤ 1000000)) (.draw n.toNat fun i => .ret (.int i)) .fail
  | _ => .fail
end Pd

/-! Instances of the program's own classes as values: made, their attributes, methods, properties read. -/
namespace Pd
open PySem L2 PySem.Spec PyProof.Rows

/-- the class of that name -/
def ClsAt (K : PySem.W.Frag) (c : Str) (C : Addr) : Prop := PySem.W.nsIn K mainGlobals c = some (some (.ref C))
theorem ClsAt.one {K : PySem.W.Frag} {c : Str} {C C2 : Addr} (h : ClsAt K c C) (h2 : PySem.W.nsIn K mainGlobals c = some (some (.ref C2))) : C2 = C := by
  have e := h.symm.trans h2
  cases e
  rfl
/-- __init__'s promise: the new object's attributes from the arguments; all else stays -/
def spI (K : PySem.W.Frag) (P : Program) (w : World) (c : Str) (n : Nat) (F : List D → T (List (Str × D))) : Sp := fun vs H Q _ => ∃ (π : Addr) (N : Addr → Bool) (x dx C : Addr) (args : List V) (ds : List D), vs = .ref x :: args ∧ args.length = n ∧ HN π N H ∧ N x = true ∧ H x = some (.ins C dx []) ∧ ClsAt K c C ∧ RvL K P w π (Hide N H) args ds ∧
  (F ds).all fun fs => ∀ (H' : Hp) (fv : List (Str × V)), (∀ a o, a ≠ π → a ≠ x → H a = some o → H' a = some o) → PotOk H' π → H' x = some (.ins C dx fv) → RvF K P w π (Hide N H') fv fs → Q .non H'
def eMake (c : Str) (n : Nat) (dds : List D) (F : List D → T (List (Str × D))) (ms : Rho → T (List D)) : Rho → T D := fun ρ => (ms ρ).bind fun ds => cond (ds.length == n) ((F (ds ++ dds)).bind fun fs => .ret (.ins c fs)) .fail
section
variable {X : Cx} {e : Expr} {es : List Expr} {pos : Pos} {m : Rho → T D} {ms : Rho → T (List D)}
theorem made_env {π x dx C : Addr} {N : Addr → Bool} {H : Hp} (hn : HN π N H) (hx : H x = none) (hd : H dx = none) (ne : dx ≠ x) : HN π (plus N x) (upd (upd H dx (.own x)) x (.ins C dx [])) ∧ Kp π (Hide N H) (Hide (plus N x) (upd (upd H dx (.own x)) x (.ins C dx []))) ∧ (∀ a o, H a = some o → (upd (upd H dx (.own x)) x (.ins C dx [])) a = some o) := by
  have keep : ∀ a o, H a = some o → (upd (upd H dx (.own x)) x (.ins C dx [])) a = some o := fun a o h => by
    rw [upd_ne (ne_of_none h hx), upd_ne (ne_of_none h hd)]
    exact h
  refine ⟨⟨?_, ?_, fun a h => ?_⟩, fun a o n h => ?_, keep⟩
  · obtain ⟨p, q, h, r⟩ := hn.pot
    exact ⟨p, q, keep _ _ h, r⟩
  · have := hn.pot.ne hx
    simp [plus, hn.npi, this.symm]
  · rcases plus_or h with h | h
    · have q := hn.isS a h
      cases c : H a with
      | none => exact absurd c q
      | some o => rw [keep a o c]; exact fun z => by cases z
    · rw [h, upd_same]; exact fun z => by cases z
  · obtain ⟨na, ha⟩ := hide_some h
    have nx : a ≠ x := ne_of_none ha hx
    rw [hide_in (by simp [plus, na, nx])]
    exact keep a o ha
theorem s_make {k n : Nat} {C f : Addr} {fd : FuncData} {ps : List Str} {c x : Str} {p : Pos} {dvs : List V} {dv : List Value} {dds : List D} {F : List D → T (List (Str × D))} (M : Mk X.K C f) (G : FnOk X.prog X.w X.K X.mg X.base CX0 k f fd ps (spI X.K X.prog X.w c (n + dvs.length) F)) (hr : Room (k + 1) X.A) (hm : X.mg x = some (.ref C)) (at_ : ClsAt X.K c C)
    (hb : Binds X.K fd ps dv) (hd : Vals dvs dv) (hdd : ∀ π H, RvL X.K X.prog X.w π H dvs dds) (ha : SndA X (e :: es) ms) (hg : Gl X x := by rfl) (hdb : (x == ("__debug__" : Str)) = false := by decide) (he : starEach (e :: es) X.env = (false, eval e X.env) :: starEach es X.env := by rfl) (hpl : (backTo pos (starEach es X.env)).any (·.1) = false := by rfl) :
    Snd X (.Call (.Name x p) (e :: es) [] pos) (eMake c n dds F ms) := fun {π N0 H0 N H σ ρ Q} I h =>
  ⟨_, pe_make M G hr hg hm hb hd pass0 pa_wp hdb he hpl, ha I (T.all_mono (fun ds hds vs H1 e1 r x dx hx hdx ne => by
    obtain ⟨hl, hds⟩ := cond_all hds
    have hn := I.hn.ext e1
    obtain ⟨a1, a2, a3⟩ := made_env (C := C) hn hx hdx ne
    have hl : ds.length = n := by simpa using hl
    have Nx : N x = false := hn.new hx
    refine ⟨π, plus N x, x, dx, C, vs ++ dvs, ds ++ dds, rfl, by rw [List.length_append, r.length, hl], a1, plus_self, upd_same, at_, (r.mono a2).append (hdd _ _), T.all_mono (fun fs q H' fv keep pot hx2 rf => ⟨rfl, ?_⟩) (T.all_bind.mp hds)⟩
    have k2 : Kp π (Hide (plus N x) H') (Hide N H') := Kp.less fun a h => plus_old h
    refine q (.ref x) H' ⟨fun a o n h => ?_, pot⟩ (.ins at_ (by rw [hide_in Nx]; exact hx2) (hn.pot.ne hx) (RvF.mono k2 rf))
    have h1 := e1.kp a o n h
    exact keep a o n (ne_of_none h1 hx) (a3 a o h1)) (T.all_bind.mp h))⟩
/-! attributes -/
def fieldD (f : Str) : List (Str × D) → Option D
  | [] => none
  | (g, d) :: r => cond (f == g) (some d) (fieldD f r)
theorem RvF.get {K : PySem.W.Frag} {P : Program} {w : World} {π : Addr} {H : Hp} {f : Str} : ∀ {ds : List (Str × D)} {vs : List (Str × V)} {d : D}, RvF K P w π H vs ds → fieldD f ds = some d → ∃ v, vs.lookup f = some v ∧ Rv K P w π H v d
  | _, _, _, .nil, e => by cases e
  | (g, dg) :: ds, _, d, .cons (v := v) r t, e => by
    unfold fieldD at e
    cases q : f == g with
    | true =>
      rw [q] at e
      cases e
      exact ⟨v, by simp [List.lookup, q], r⟩
    | false =>
      rw [q] at e
      obtain ⟨v', h1, h2⟩ := RvF.get t e
      exact ⟨v', by simp [List.lookup, q, h1], h2⟩
theorem RvF.none_of {K : PySem.W.Frag} {P : Program} {w : World} {π : Addr} {H : Hp} {f : Str} : ∀ {ds : List (Str × D)} {vs : List (Str × V)}, RvF K P w π H vs ds → fieldD f ds = none → vs.lookup f = none
  | _, _, .nil, _ => rfl
  | (g, dg) :: ds, _, .cons r t, e => by
    unfold fieldD at e
    cases q : f == g with
    | true => rw [q] at e; cases e
    | false =>
      rw [q] at e
      simp [List.lookup, q, RvF.none_of t e]
def optT {α : Type} : Option α → T α
  | some d => .ret d
  | none => .fail
theorem optT_all {α : Type} {P : α → Prop} {o : Option α} (h : (optT o).all P) : ∃ d, o = some d ∧ P d := by
  cases o with
  | some d => exact ⟨d, rfl, h⟩
  | none => exact False.elim h
def attrD (c f : Str) : D → T D
  | .ins c2 fs => cond (c2 == c) (optT (fieldD f fs)) .fail
  | _ => .fail
theorem attrD_all {c f : Str} {d : D} {P : D → Prop} (h : (attrD c f d).all P) : ∃ fs d2, d = .ins c fs ∧ fieldD f fs = some d2 ∧ P d2 := by
  unfold attrD at h
  split at h
  · rename_i c2 fs
    obtain ⟨ec, h⟩ := cond_all h
    obtain ⟨d2, q, h⟩ := optT_all h
    exact ⟨fs, d2, by rw [eq_of_beq ec], q, h⟩
  · exact False.elim h
theorem Rv.insE {K : PySem.W.Frag} {P : Program} {w : World} {π : Addr} {N : Addr → Bool} {H : Hp} {v : V} {c : Str} {fs : List (Str × D)} (r : Rv K P w π (Hide N H) v (.ins c fs)) : ∃ a dx C fv, v = .ref a ∧ PySem.W.nsIn K mainGlobals c = some (some (.ref C)) ∧ H a = some (.ins C dx fv) ∧ RvF K P w π (Hide N H) fv fs := by
  cases r with
  | ins hc h n r => exact ⟨_, _, _, _, rfl, hc, (hide_some h).2, r⟩
theorem s_attr {c f : Str} {C : Addr} (at_ : ClsAt X.K c C) (cl : Cls X.K C) (no : NoAttr X.K C f) (ha : Snd X e m) (hb : attributeBase e f X.env (eval e X.env) = eval e X.env := by rfl) : Snd X (.Attribute e f pos) (eUn (attrD c f) m) := fun {π N0 H0 N H σ ρ Q} I h =>
  ⟨_, pe_fld pe_wp hb, ha I (T.all_mono (fun d hd v H2 e2 r => by
    obtain ⟨fs, d2, rfl, q, hd⟩ := attrD_all hd
    obtain ⟨a, dx, C2, fv, rfl, hc, hx, rf⟩ := r.insE
    have e3 := at_.one hc
    subst e3
    obtain ⟨v2, hl, rv⟩ := rf.get q
    exact ⟨a, _, dx, fv, v2, rfl, hx, cl, no, hl, hd v2 H2 e2 rv⟩) (T.all_bind.mp h))⟩

/-! methods, properties -/
def insD (c m : Str) (d : D) : T Unit := match d with
  | .ins c2 fs => cond (c2 == c && (fieldD m fs).isNone) (.ret ()) .fail
  | _ => .fail
theorem insD_all {c m : Str} {d : D} {P : Unit → Prop} (h : (insD c m d).all P) : ∃ fs, d = .ins c fs ∧ fieldD m fs = none ∧ P () := by
  unfold insD at h
  split at h
  · rename_i c2 fs
    obtain ⟨ec, h⟩ := cond_all h
    have ec := Bool.and_eq_true_iff.mp ec
    exact ⟨fs, by rw [eq_of_beq ec.1], by simpa using ec.2, h⟩
  · exact False.elim h
def eMeth (c m : Str) (n : Nat) (F : List D → T D) (ma : Rho → T D) (ms : Rho → T (List D)) : Rho → T D := fun ρ => (ma ρ).bind fun d => (insD c m d).bind fun _ => (ms ρ).bind fun ds => cond (ds.length == n) (F (d :: ds)) .fail
theorem meth_spec {π : Addr} {N : Addr → Bool} {H H1 H2 : Hp} {Q : VK} {n : Nat} {F : List D → T D} {x : V} {d : D} {vs : List V} {ds : List D} (hn : HN π N H) (e12 : Ex π H1 H2) (e : Ex π H H2) (rx : Rv X.K X.prog X.w π (Hide N H1) x d) (r : RvL X.K X.prog X.w π (Hide N H2) vs ds) (hl : ds.length = n) (h : (F (d :: ds)).all (Kd X π N H Q)) :
    spD X.K X.prog X.w (n + 1) F (x :: (vs ++ [])) H2 Q E0 := by
  rw [List.append_nil]
  exact ⟨π, N, d :: ds, hn.ext e, .cons (rx.mono e12.kp.hide) r, by rw [List.length_cons, r.length, hl], T.all_mono (fun _ q v H3 e3 r3 => q v H3 (e.trans e3) r3) h⟩
theorem s_meth {k n : Nat} {C f : Addr} {fd : FuncData} {ps : List Str} {c m : Str} {F : List D → T D} {o : Expr} {mo : Rho → T D} {apos : Pos} {pl : Sem Bool} (at_ : ClsAt X.K c C) (cl : Cls X.K C) (hm : Meth X.K C m f) (G : FnOk X.prog X.w X.K X.mg X.base CX0 k f fd ps (spD X.K X.prog X.w (n + 1) F)) (hr : Room k X.A) (hb : Binds X.K fd ps [])
    (ho : Snd X o mo) (ha : SndA X (e :: es) ms) (hst : starEach (e :: es) X.env = (false, eval e X.env) :: starEach es X.env := by rfl) (hpl : (backTo pos (starEach es X.env)).any (·.1) = false := by rfl)
    (ht : eval (.Call (.Attribute o m apos) (e :: es) [] pos) X.env = (do
      let ov ← eval o X.env
      standAt apos.atName
      let (f, first) ← holding [ov] (getMethod ov m pl)
      callWith pos f first (backTo pos (starEach (e :: es) X.env)) (backToKw pos (keywordEach [] X.env))) := by rfl) :
    Snd X (.Call (.Attribute o m apos) (e :: es) [] pos) (eMeth c m n F mo ms) := fun {π N0 H0 N H σ ρ Q} I h =>
  ⟨_, pe_meth (pl := pl) pe_wp cl hm G hr hb .nil pass0 pa_wp hst hpl ht, ho I (T.all_mono (fun d hd => by
    intro x H1 e1 rx
    obtain ⟨fs, rfl, nf, hd⟩ := insD_all (T.all_bind.mp hd)
    obtain ⟨a, dx, C2, fv, rfl, hc, hx, rf⟩ := rx.insE
    have e3 := at_.one hc
    subst e3
    refine ⟨a, dx, fv, rfl, hx, rf.none_of nf, ha (I.ext e1) (T.all_mono (fun ds hd => ?_) (T.all_bind.mp hd))⟩
    intro vs H2 e2 r
    obtain ⟨hl, hd⟩ := cond_all hd
    exact meth_spec I.hn e2 (e1.trans e2) rx r (by simpa using hl) hd) (T.all_bind.mp h))⟩
theorem s_meth0 {k : Nat} {C f : Addr} {fd : FuncData} {ps : List Str} {c m : Str} {F : List D → T D} {o : Expr} {mo : Rho → T D} {apos : Pos} {pl : Sem Bool} (at_ : ClsAt X.K c C) (cl : Cls X.K C) (hm : Meth X.K C m f) (G : FnOk X.prog X.w X.K X.mg X.base CX0 k f fd ps (spD X.K X.prog X.w 1 F)) (hr : Room k X.A) (hb : Binds X.K fd ps [])
    (ho : Snd X o mo)
    (ht : eval (.Call (.Attribute o m apos) [] [] pos) X.env = (do
      let ov ← eval o X.env
      standAt apos.atName
      let (f, first) ← holding [ov] (getMethod ov m pl)
      callWith pos f first (backTo pos (starEach [] X.env)) (backToKw pos (keywordEach [] X.env))) := by rfl) :
    Snd X (.Call (.Attribute o m apos) [] [] pos) (eMeth c m 0 F mo aNil) := fun {π N0 H0 N H σ ρ Q} I h =>
  ⟨_, pe_meth0 (pl := pl) pe_wp cl hm G hr hb .nil pass0 ht, ho I (T.all_mono (fun d hd => by
    intro x H1 e1 rx
    obtain ⟨fs, rfl, nf, hd⟩ := insD_all (T.all_bind.mp hd)
    obtain ⟨a, dx, C2, fv, rfl, hc, hx, rf⟩ := rx.insE
    have e3 := at_.one hc
    subst e3
    exact ⟨a, dx, fv, rfl, hx, rf.none_of nf, meth_spec (n := 0) I.hn (Ex.refl e1.pot) e1 rx .nil rfl hd⟩) (T.all_bind.mp h))⟩
def isC (c : Str) (d : D) : T Unit := match d with
  | .ins c2 _ => cond (c2 == c) (.ret ()) .fail
  | _ => .fail
theorem isC_all {c : Str} {d : D} {P : Unit → Prop} (h : (isC c d).all P) : ∃ fs, d = .ins c fs ∧ P () := by
  unfold isC at h
  split at h
  · rename_i c2 fs
    obtain ⟨ec, h⟩ := cond_all h
    exact ⟨fs, by rw [eq_of_beq ec], h⟩
  · exact False.elim h
def eProp (c : Str) (F : List D → T D) (mo : Rho → T D) : Rho → T D := fun ρ => (mo ρ).bind fun d => (isC c d).bind fun _ => F [d]
theorem s_prop {k : Nat} {C p g : Addr} {fd : FuncData} {ps : List Str} {c f : Str} {F : List D → T D} (at_ : ClsAt X.K c C) (cl : Cls X.K C) (hp : PropOf X.K C f p g) (G : FnOk X.prog X.w X.K X.mg X.base CX0 k g fd ps (spD X.K X.prog X.w 1 F)) (hr : Room (k + 1) X.A) (hb : Binds X.K fd ps []) (ho : Snd X e m)
    (hab : attributeBase e f X.env (eval e X.env) = eval e X.env := by rfl) : Snd X (.Attribute e f pos) (eProp c F m) := fun {π N0 H0 N H σ ρ Q} I h =>
  ⟨_, pe_prop pe_wp cl hp G hr hb .nil pass0 hab, ho I (T.all_mono (fun d hd => by
    intro x H1 e1 rx
    obtain ⟨fs, rfl, hd⟩ := isC_all (T.all_bind.mp hd)
    obtain ⟨a, dx, C2, fv, rfl, hc, hx, rf⟩ := id rx.insE
    have e3 := at_.one hc
    subst e3
    exact ⟨a, dx, fv, rfl, hx, meth_spec (n := 0) (vs := []) I.hn (Ex.refl e1.pot) e1 rx .nil rfl hd⟩) (T.all_bind.mp h))⟩
end
end Pd

/-! Operators of the program's own classes. -/
namespace Pd
open PySem L2 PySem.Spec PyProof.Rows

structure OwnOp (K : PySem.W.Frag) (C : Addr) (op : Operator) (f : Addr) : Prop where
  first : PySem.W.selfFirst K C = true
  at_ : PySem.W.findIn K (.ref C) (PySem.dunder op.info.2) = some (some (.ref f))
  fn : PySem.W.isFn K (.ref f) = true
  back : ∃ rc, PySem.W.findIn K (.ref C) (PySem.dunderR op.info.2) = some rc ∧ (rc = none ∨ ∃ g : Addr, rc = some (.ref g))
  nums : ∃ fo ro, PySem.W.findIn K (.type "int") (PySem.dunder op.info.2) = some fo ∧ PySem.W.findIn K (.type "int") (PySem.dunderR op.info.2) = some ro
  sub : PySem.W.subIn K (.type "int") (.ref C) = some false
theorem back_of {Q : Value → Shared → Prop} {v : V} {u : Value} {s : Shared} (r : RelV v u) (h : Q u s) : PySem.W.CmpBack Q u s := by
  cases v with
  | non => cases r; exact h
  | bl b => cases r; exact h
  | int i => obtain ⟨t, rfl⟩ := r; exact h
  | str x => obtain ⟨t, rfl⟩ := r; exact h
  | byt b => obtain ⟨t, rfl⟩ := r; exact h
  | flt b => obtain ⟨t, rfl⟩ := r; exact h
  | ref a => cases r; exact h
  | ty n => cases r; exact h
section
variable {X : Cx} {a : Expr} {pos : Pos} {ma : Rho → T D}
theorem op_own {op : Operator} {k : Nat} {C f : Addr} {fd : FuncData} {ps : List Str} {F : List D → T D} (O : OwnOp X.K C op f) (G : FnOk X.prog X.w X.K X.mg X.base CX0 k f fd ps (spD X.K X.prog X.w 2 F)) (hr : Room k X.A) (hb : Binds X.K fd ps []) :
    OpR X (binaryOp op) (fun x y H Q => ∃ a dx fv, x = .ref a ∧ H a = some (.ins C dx fv) ∧ ((∃ i, y = .int i) ∨ ∃ b dx2 fw, y = .ref b ∧ H b = some (.ins C dx2 fw)) ∧ spD X.K X.prog X.w 2 F [x, y] H Q E0) := by
  intro pins s σ H x y v u Q I rx ry h
  obtain ⟨a, dx, fv, rfl, ha, hy, h⟩ := h
  cases rx
  obtain ⟨mA, M, _, _, _, _⟩ := ins_get I.hok ha
  obtain ⟨od, J, _⟩ := M.look
  obtain ⟨m, Fr0⟩ := I.fr
  have call1 := run_fn (dvs := []) (ds := []) G hr hb .nil pass0 I (vs := [.ref a, y]) (us := [.ref a, u]) (.cons rfl (.cons ry .nil)) h
  have call2 := wpAny_mono call1 (fun r s2 hs => by
    obtain ⟨v2, H2, I2, rv, q⟩ := hs
    exact back_of (Q := EP X pins σ Q) rv ⟨v2, H2, I2, rv, q⟩) fun _ _ z => z
  rcases hy with ⟨i, rfl⟩ | ⟨b, dx2, fw, rfl, hb2⟩
  · obtain ⟨t, rfl⟩ := ry
    obtain ⟨rc, r1, r2⟩ := O.back
    obtain ⟨fo, ro, i1, i2⟩ := O.nums
    exact PySem.W.ksp_binT (T := "int") Fr0 I.ok.mod.kin J rfl O.first O.at_ O.fn r1 r2 i1 i2 O.sub call2
  · cases ry
    obtain ⟨mB, M2, _, _, _, _⟩ := ins_get I.hok hb2
    obtain ⟨od2, J2, _⟩ := M2.look
    exact PySem.W.binop_K Fr0 I.ok.mod.kin J J2.type O.first O.at_ O.fn call2
def right2 (c : Str) (F : List D → T D) (x : D) : D → T D
  | .int i => F [x, .int i]
  | y => (isC c y).bind fun _ => F [x, y]
theorem right2_all {c : Str} {F : List D → T D} {x y : D} {P : D → Prop} (h : (right2 c F x y).all P) : ((∃ i, y = .int i) ∨ ∃ gs, y = .ins c gs) ∧ (F [x, y]).all P := by
  cases y with
  | int i => exact ⟨.inl ⟨i, rfl⟩, h⟩
  | ins c2 gs =>
    obtain ⟨gs2, e, h⟩ := isC_all (T.all_bind.mp (show ((isC c (.ins c2 gs)).bind fun _ => F [x, .ins c2 gs]).all P from h))
    exact ⟨.inr ⟨gs2, e⟩, h⟩
  | _ => exact False.elim h
def opOwn (c : Str) (F : List D → T D) : D → D → T D := fun x y => (isC c x).bind fun _ => right2 c F x y
theorem os_own {op : Operator} {k : Nat} {c : Str} {C f : Addr} {fd : FuncData} {ps : List Str} {F : List D → T D} (at_ : ClsAt X.K c C) (O : OwnOp X.K C op f) (G : FnOk X.prog X.w X.K X.mg X.base CX0 k f fd ps (spD X.K X.prog X.w 2 F)) (hr : Room k X.A) (hb : Binds X.K fd ps []) : OpSnd X (binaryOp op) (opOwn c F) := fun {π N H x y dx dy Q} hn rx ry h => by
  unfold opOwn at h
  obtain ⟨fs, rfl, h⟩ := isC_all (T.all_bind.mp h)
  obtain ⟨a, d1, C2, fv, rfl, hc, hx, rf⟩ := id rx.insE
  have e3 := at_.one hc
  subst e3
  refine ⟨_, op_own O G hr hb, a, d1, fv, rfl, hx, ?_⟩
  obtain ⟨hy, h⟩ := right2_all h
  refine ⟨?_, π, N, _, hn, .cons rx (.cons ry .nil), rfl, h⟩
  rcases hy with ⟨i, rfl⟩ | ⟨gs, rfl⟩
  · exact .inl ⟨i, ry.intE⟩
  · obtain ⟨b, d2, C3, fw, rfl, hc3, hy, _⟩ := id ry.insE
    have e4 := at_.one hc3
    subst e4
    exact .inr ⟨b, d2, fw, rfl, hy⟩
/-! -x -/
theorem un_own {k : Nat} {C f : Addr} {fd : FuncData} {ps : List Str} {F : List D → T D} (hs : PySem.W.findIn X.K (.ref C) "__neg__" = some (some (.ref f))) (hf : PySem.W.isFn X.K (.ref f) = true) (G : FnOk X.prog X.w X.K X.mg X.base CX0 k f fd ps (spD X.K X.prog X.w 1 F)) (hr : Room k X.A) (hb : Binds X.K fd ps []) :
    UnR X (unaryOp .USub) (fun x H Q => ∃ a dx fv, x = .ref a ∧ H a = some (.ins C dx fv) ∧ spD X.K X.prog X.w 1 F [x] H Q E0) := by
  intro pins s σ H x v Q I rx h
  obtain ⟨a, dx, fv, rfl, ha, h⟩ := h
  cases rx
  obtain ⟨mA, M, _, _, _, _⟩ := ins_get I.hok ha
  obtain ⟨od, J, _⟩ := M.look
  obtain ⟨m, Fr0⟩ := I.fr
  exact PySem.W.ksp_neg Fr0 I.ok.mod.kin J hs hf (run_fn (dvs := []) (ds := []) G hr hb .nil pass0 I (vs := [.ref a]) (us := [.ref a]) (.cons rfl .nil) h)
def uNegC (c : Str) (F : List D → T D) : D → T D := fun d => match d with
  | .int i => .ret (.int (-i))
  | d => (isC c d).bind fun _ => F [d]
theorem s_negC {k : Nat} {c : Str} {C f : Addr} {fd : FuncData} {ps : List Str} {F : List D → T D} (at_ : ClsAt X.K c C) (hs : PySem.W.findIn X.K (.ref C) "__neg__" = some (some (.ref f))) (hf : PySem.W.isFn X.K (.ref f) = true) (G : FnOk X.prog X.w X.K X.mg X.base CX0 k f fd ps (spD X.K X.prog X.w 1 F)) (hr : Room k X.A) (hb : Binds X.K fd ps [])
    (ha : Snd X a ma) : Snd X (.UnaryOp .USub a pos) (eUn (uNegC c F) ma) := fun {π N0 H0 N H σ ρ Q} I h =>
  ⟨_, pe_un un_wp pe_wp, ha I (T.all_mono (fun d hd => by
    intro v H2 e2 r
    unfold uNegC at hd
    split at hd
    · cases r
      exact ⟨_, un_neg, _, rfl, hd _ _ e2 (.int _)⟩
    · obtain ⟨fs, rfl, hd⟩ := isC_all (T.all_bind.mp hd)
      obtain ⟨a, dx, C2, fv, rfl, hc, hx, rf⟩ := id r.insE
      have e3 := at_.one hc
      subst e3
      refine ⟨_, un_own hs hf G hr hb, a, dx, fv, rfl, hx, π, N, _, I.hn.ext e2, .cons r .nil, rfl, T.all_mono (fun _ q v H3 e3 r3 => q v H3 (e2.trans e3) r3) hd⟩) (T.all_bind.mp h))⟩
end
end Pd

/-! int op instance: the class's reflected method. -/
namespace Pd
open PySem L2 PySem.Spec PyProof.Rows PySem.W

theorem back_try {prog : Program} {w : World} {A : Around} {E : Value → Shared → Prop} {s : Shared} {K : PySem.W.Frag} {x C f0 f : Addr} {ox : Obj} {od : Option Obj} {nm id : String} {i : Int} {t : Tok} {fo ro : Option Value} {Q : Option Value → Shared → Prop}
    (X : K.In s.heap) (I : InstAt s.heap x ox C od) (hc : selfFirst K C = true) (h0 : findIn K (.ref C) (PySem.dunder nm) = some (some (.ref f0))) (hs : findIn K (.ref C) (dunderR nm) = some (some (.ref f))) (hf : isFn K (.ref f) = true)
    (h1 : findIn K (.type "int") (PySem.dunder nm) = some fo) (h2 : findIn K (.type "int") (dunderR nm) = some ro) (hleft : ((fo.isSome && !isSeqSlot fo) || (ro.isSome && !isSeqSlot ro)) = true) (hsub : subIn K (.ref C) (.type "int") = some false)
    (hsl : Slot "int" (PySem.dunder nm) id) (hdec : wpAny (model prog w) A (call (.builtin id) [.int i t, .ref x]) (fun v s' => v = .notImplemented ∧ s' = s) E s)
    (h : wpAny (model prog w) A (call (.ref f) [.ref x, .int i t]) (PySem.W.CmpBack fun v s' => Q (some v) s') E s) : wpAny (model prog w) A (binaryOp1 nm (.int i t) (.ref x)) Q E s := by
  obtain ⟨cd, rest, hcd, hm⟩ := ksp_first hc
  have two := ksp_try (Q := fun v s' => Q (some v) s') X I hs hf h
  have one : wpAny (model prog w) A (tryMethod (.int i t) (PySem.dunder nm) (.ref x)) (fun r s' => r = none ∧ s' = s) E s := wpAny_tryMethod_declines (typeIs_int s i t) hsl (wpAny_mono hdec (fun v s' z => ⟨z.1, rfl, z.2⟩) fun _ _ z => z)
  have L2 : Looks (model prog w) s.heap (typeOf (.ref x)) (.ref C) := I.type
  have L3 : Looks (model prog w) s.heap (fillsNumberSlot (.ref C) nm) true := fills_K X hcd hm h0
  have L4 := ksp_fillsT (M := model prog w) X h1 h2
  rw [hleft] at L4
  have L5 : Looks (model prog w) s.heap (isSubtype (.ref C) (.type "int")) false := looks_subIn X hsub
  have hne : (Value.type "int" == Value.ref C) = false := Bool.eq_false_iff.mpr fun q => by cases beq_iff_eq.mp q
  unfold binaryOp1
  refine wpAny_bind (wpAny_pure ?_)
  refine wpAny_bind (L2.here (wpAny_bind (L4.here ?_)))
  simp only [hne, Bool.false_eq_true, if_false]
  refine wpAny_bind (L3.here ?_)
  simp only [Bool.and_self, if_true]
  refine wpAny_bind (L5.here ?_)
  simp only [Bool.false_eq_true, if_false, Bool.not_false, Bool.and_self, if_true]
  refine wpAny_bind (m := numberSlotInPython (.type "int") nm) (wpAny_pure ?_)
  simp only [Bool.false_eq_true, if_false]
  refine wpAny_bind (wpAny_mono one (fun r s2 hr => ?_) fun _ _ z => z)
  obtain ⟨rfl, rfl⟩ := hr
  dsimp only
  refine wpAny_bind (wpAny_mono two (fun r s3 hr => ?_) fun _ _ z => z)
  obtain ⟨v, rfl, hq⟩ := hr
  dsimp only
  exact wpAny_bind (wpAny_rule (wpAny_pure hq))
theorem dec_add (i : Int) (t : Tok) (x : Addr) (C dx : Addr) : Meets (Builtin.«int.__add__» ⟨[.int i t, .ref x], []⟩) (fun _ R s => s.heap.get? x = some (instObj C dx) ∧ R (.ok (.ret Value.notImplemented)) s) :=
  .of_wp fun prog w A R s h => by obtain ⟨hp, g, d, tk, os⟩ := s; obtain ⟨hl, h⟩ := h; unfold instObj at hl; wp_walk using wpAny_loadPart' hl; exact ⟨_, rfl, h⟩
theorem dec_sub (i : Int) (t : Tok) (x : Addr) (C dx : Addr) : Meets (Builtin.«int.__sub__» ⟨[.int i t, .ref x], []⟩) (fun _ R s => s.heap.get? x = some (instObj C dx) ∧ R (.ok (.ret Value.notImplemented)) s) :=
  .of_wp fun prog w A R s h => by obtain ⟨hp, g, d, tk, os⟩ := s; obtain ⟨hl, h⟩ := h; unfold instObj at hl; wp_walk using wpAny_loadPart' hl; exact ⟨_, rfl, h⟩
theorem dec_mul (i : Int) (t : Tok) (x : Addr) (C dx : Addr) : Meets (Builtin.«int.__mul__» ⟨[.int i t, .ref x], []⟩) (fun _ R s => s.heap.get? x = some (instObj C dx) ∧ R (.ok (.ret Value.notImplemented)) s) :=
  .of_wp fun prog w A R s h => by obtain ⟨hp, g, d, tk, os⟩ := s; obtain ⟨hl, h⟩ := h; unfold instObj at hl; wp_walk using wpAny_loadPart' hl; exact ⟨_, rfl, h⟩
/-- int op instance -/
structure BackOp (K : PySem.W.Frag) (C : Addr) (op : Operator) (f : Addr) : Prop where
  first : selfFirst K C = true
  own : ∃ f0 : Addr, findIn K (.ref C) (PySem.dunder op.info.2) = some (some (.ref f0))
  at_ : findIn K (.ref C) (dunderR op.info.2) = some (some (.ref f))
  fn : isFn K (.ref f) = true
  nums : ∃ fo ro, findIn K (.type "int") (PySem.dunder op.info.2) = some fo ∧ findIn K (.type "int") (dunderR op.info.2) = some ro ∧ ((fo.isSome && !isSeqSlot fo) || (ro.isSome && !isSeqSlot ro)) = true
  sub : subIn K (.ref C) (.type "int") = some false
/-- what int's own slot says to an instance -/
def Declines (op : Operator) : Prop := ∃ id, Slot "int" (PySem.dunder op.info.2) id ∧ ∀ (prog : Program) (w : World) (A : Around) (E : Value → Shared → Prop) (s : Shared) (i : Int) (t : Tok) (x C dx : Addr), s.heap.get? x = some (instObj C dx) → wpAny (model prog w) A (call (.builtin id) [.int i t, .ref x]) (fun v s' => v = .notImplemented ∧ s' = s) E s
theorem declines_add : Declines .Add := ⟨_, F.slot_int_add, fun prog w A E s i t x C dx h => call_meets F.slot_int_add (typeIs_int s i t) F.entry_int_add (F.args_int_add_2 _ _) (dec_add i t x C dx) ⟨h, rfl, rfl⟩⟩
theorem declines_sub : Declines .Sub := ⟨_, F.slot_int_sub, fun prog w A E s i t x C dx h => call_meets F.slot_int_sub (typeIs_int s i t) F.entry_int_sub (F.args_int_sub_2 _ _) (dec_sub i t x C dx) ⟨h, rfl, rfl⟩⟩
theorem declines_mul : Declines .Mult := ⟨_, F.slot_int_mul, fun prog w A E s i t x C dx h => call_meets F.slot_int_mul (typeIs_int s i t) F.entry_int_mul (F.args_int_mul_2 _ _) (dec_mul i t x C dx) ⟨h, rfl, rfl⟩⟩
section
variable {X : Cx}
theorem op_back {op : Operator} {k : Nat} {C f : Addr} {fd : FuncData} {ps : List Str} {F : List D → T D} (B : BackOp X.K C op f) (dc : Declines op) (G : FnOk X.prog X.w X.K X.mg X.base CX0 k f fd ps (spD X.K X.prog X.w 2 F)) (hr : Room k X.A) (hb : Binds X.K fd ps []) :
    OpR X (binaryOp op) (fun x y H Q => ∃ i a dx fv, x = .int i ∧ y = .ref a ∧ H a = some (.ins C dx fv) ∧ spD X.K X.prog X.w 2 F [y, x] H Q E0) := by
  intro pins s σ H x y v u Q I rx ry h
  obtain ⟨i, a, dx, fv, rfl, rfl, ha, h⟩ := h
  cases ry
  have rx0 := rx
  obtain ⟨t, rfl⟩ := rx
  obtain ⟨mA, M, _, _, _, _⟩ := ins_get I.hok ha
  obtain ⟨od, J, _⟩ := M.look
  have call1 := run_fn (dvs := []) (ds := []) G hr hb .nil pass0 I (vs := [.ref a, .int i]) (us := [.ref a, .int i t]) (.cons rfl (.cons rx0 .nil)) h
  have call2 := wpAny_mono call1 (fun r s2 hs => by
    obtain ⟨v2, H2, I2, rv, q⟩ := hs
    exact back_of (Q := EP X pins σ Q) rv ⟨v2, H2, I2, rv, q⟩) fun _ _ z => z
  obtain ⟨f0, own⟩ := B.own
  obtain ⟨fo, ro, i1, i2, i3⟩ := B.nums
  obtain ⟨id, hsl, hdec⟩ := dc
  have one := back_try (Q := fun r s2 => ∃ v, r = some v ∧ EP X pins σ Q v s2) I.kIn J B.first own B.at_ B.fn i1 i2 i3 B.sub hsl (hdec X.prog X.w X.A X.xe s i t a C dx M.obj) (wpAny_mono call2 (fun v s2 hv => by
    cases v <;> first | exact hv.elim | exact ⟨_, rfl, hv⟩) fun _ _ z => z)
  unfold binaryOp
  refine wpAny_holding (wpAny_bind (wpAny_mono one (fun r s2 hr => ?_) fun _ _ z => z))
  obtain ⟨v, rfl, hq⟩ := hr
  exact wpAny_pure hq
/-- an operator of ints and of instances on either side -/
def opAny (c : Str) (f : D → D → T D) (F R : List D → T D) : D → D → T D
  | .int i, .ins c2 gs => (isC c (.ins c2 gs)).bind fun _ => R [.ins c2 gs, .int i]
  | .ins c2 fs, y => opOwn c F (.ins c2 fs) y
  | x, y => f x y
theorem os_any {op : Operator} {k j : Nat} {c : Str} {C f r : Addr} {fd rd : FuncData} {ps qs : List Str} {g : D → D → T D} {F R : List D → T D} (h0 : OpSnd X (binaryOp op) g) (at_ : ClsAt X.K c C) (O : OwnOp X.K C op f) (G : FnOk X.prog X.w X.K X.mg X.base CX0 k f fd ps (spD X.K X.prog X.w 2 F)) (hr : Room k X.A) (hb : Binds X.K fd ps [])
    (B : BackOp X.K C op r) (dc : Declines op) (GR : FnOk X.prog X.w X.K X.mg X.base CX0 j r rd qs (spD X.K X.prog X.w 2 R)) (hr2 : Room j X.A) (hb2 : Binds X.K rd qs []) : OpSnd X (binaryOp op) (opAny c g F R) := fun {π N H x y dx dy Q} hn rx ry h => by
  unfold opAny at h
  split at h
  · rename_i i c2 gs
    obtain ⟨fs, e, h⟩ := isC_all (T.all_bind.mp h)
    cases e
    obtain ⟨b, d2, C3, fw, rfl, hc3, hy, _⟩ := id ry.insE
    have e4 := at_.one hc3
    subst e4
    have ex := rx.intE
    subst ex
    exact ⟨_, op_back B dc GR hr2 hb2, i, b, d2, fw, rfl, rfl, hy, π, N, _, hn, .cons ry (.cons rx .nil), rfl, h⟩
  · exact os_own at_ O G hr hb hn rx ry h
  · exact h0 hn rx ry h
end
end Pd

/-! isinstance with instances about. -/
namespace Pd
open PySem L2 PySem.Spec PyProof.Rows

/-- the class is one whose instances isinstance may be asked of -/
structure ClsTy (K : PySem.W.Frag) (C : Addr) : Prop where
  ty : ∀ (H : Hp) (a dx : Addr) (fs : List (Str × V)), H a = some (.ins C dx fs) → TyOf K H (.ref a) (.ref C)
  no : ∀ t : Ty5, PySem.W.kitOne K (.ref C) (.type t.nm) = some false
  is : ∀ t : Ty5, PySem.W.kitOne K (.type t.nm) (.ref C) = some false
def KnownC (K : PySem.W.Frag) (cs : List Str) : Prop := ∀ c, cs.contains c = true → ∃ C, ClsAt K c C ∧ ClsTy K C
/-- isinstance(d, a built-in type) -/
def isDC (cs : List Str) (k : Ty5) (d : D) : T D := match d with
  | .ins c _ => cond (cs.contains c) (.ret (.bl false)) .fail
  | d => isD k d
/-- isinstance(d, the class of that name) -/
def isOC (cs : List Str) (c0 : Str) (d : D) : T D := match d with
  | .ins c _ => cond (c == c0) (.ret (.bl true)) (cond (cs.contains c) (.ret (.bl false)) .fail)
  | d => (optT (tyD d)).bind fun _ => .ret (.bl false)
section
variable {X : Cx} {pos : Pos} {e : Expr} {m : Rho → T D}
theorem isi_ins {π : Addr} {N : Addr → Bool} {H : Hp} {v : V} {c : Str} {fs : List (Str × D)} {cs : List Str} (kn : KnownC X.K cs) (hc : cs.contains c = true) (r : Rv X.K X.prog X.w π (Hide N H) v (.ins c fs)) : ∃ C, ClsAt X.K c C ∧ ClsTy X.K C ∧ TyX X.K H v (.ref C) := by
  obtain ⟨C, at_, ct⟩ := kn c hc
  obtain ⟨a, dx, C2, fv, rfl, h2, hx, _⟩ := r.insE
  have e3 := at_.one h2
  subst e3
  exact ⟨C2, at_, ct, .base (ct.ty H a dx fv hx)⟩
theorem isD_all {k : Ty5} {d : D} {P : D → Prop} (h : (isD k d).all P) : ∃ t, tyD d = some t ∧ P (.bl (Ty5.sub t k)) := by
  unfold isD at h
  split at h
  · exact ⟨_, by assumption, h⟩
  · exact False.elim h
theorem s_isinstC (cs : List Str) {k : Ty5} {ty : Str} {p p2 : Pos} (kn : KnownC X.K cs) (hm : X.mg "isinstance" = none) (hmt : X.mg ty = none) (hb : bootBuiltins ty = some (.type k.nm)) (ha : Snd X e m) (hg : Gl X "isinstance" := by rfl) (hgt : Gl X ty := by rfl) (hbi : bootBuiltins "isinstance" = some (.builtin "isinstance") := by decide +kernel) (hn : ty ≠ "__name__" := by decide) (hd : (ty == ("__debug__" : Str)) = false := by decide)
    (he : starEach [e, .Name ty p] X.env = (false, eval e X.env) :: starEach [.Name ty p] X.env := by rfl) (he2 : starEach [.Name ty p] X.env = (false, eval (.Name ty p) X.env) :: starEach [] X.env := by rfl) (hpl : (backTo pos (starEach [.Name ty p] X.env)).any (·.1) = false := by rfl) :
    Snd X (.Call (.Name "isinstance" p2) [e, .Name ty p] [] pos) (eUn (isDC cs k) m) := fun {π N0 H0 N H σ ρ Q} I h =>
  ⟨_, pe_callB call_isi hg hm hbi (pa_cons pe_wp (pa_cons (pe_bltn (v := .ty k.nm) hgt hmt hb rfl hn hd) pa_nil he2) he) (by decide) (by decide) he hpl, ha I (T.all_mono (fun d hd => by
    intro v H2 e2 r
    unfold isDC at hd
    split at hd
    · obtain ⟨hc, hd⟩ := cond_all hd
      obtain ⟨C, at_, ct, tx⟩ := isi_ins kn hc r
      exact ⟨v, .ty k.nm, .ref C, .type k.nm, false, rfl, .ty _, tx, ct.no k, hd _ _ e2 (.bl _)⟩
    · obtain ⟨t, c, hd⟩ := isD_all hd
      exact ⟨v, .ty k.nm, .type t.nm, .type k.nm, Ty5.sub t k, rfl, .ty _, ty_of r c, kit_ty (kitB_sub t k), hd _ _ e2 (.bl _)⟩) (T.all_bind.mp h))⟩
theorem s_isinstO (cs : List Str) {c0 : Str} {C0 : Addr} {p p2 : Pos} (kn : KnownC X.K cs) (at0 : ClsAt X.K c0 C0) (ct0 : ClsTy X.K C0) (df : ∀ c C, cs.contains c = true → (c == c0) = false → ClsAt X.K c C → PySem.W.kitOne X.K (.ref C) (.ref C0) = some false) (hm : X.mg "isinstance" = none) (hmt : X.mg c0 = some (.ref C0)) (ha : Snd X e m) (hg : Gl X "isinstance" := by rfl) (hgt : Gl X c0 := by rfl)
    (hbi : bootBuiltins "isinstance" = some (.builtin "isinstance") := by decide +kernel) (hd : (c0 == ("__debug__" : Str)) = false := by decide)
    (he : starEach [e, .Name c0 p] X.env = (false, eval e X.env) :: starEach [.Name c0 p] X.env := by rfl) (he2 : starEach [.Name c0 p] X.env = (false, eval (.Name c0 p) X.env) :: starEach [] X.env := by rfl) (hpl : (backTo pos (starEach [.Name c0 p] X.env)).any (·.1) = false := by rfl) :
    Snd X (.Call (.Name "isinstance" p2) [e, .Name c0 p] [] pos) (eUn (isOC cs c0) m) := fun {π N0 H0 N H σ ρ Q} I h =>
  ⟨_, pe_callB call_isi hg hm hbi (pa_cons pe_wp (pa_cons (pe_glob hgt hmt (v := .ref C0) rfl hd) pa_nil he2) he) (by decide) (by decide) he hpl, ha I (T.all_mono (fun d hz => by
    intro v H2 e2 r
    unfold isOC at hz
    split at hz
    · rename_i c fs
      cases q : (c == c0) with
      | true =>
        rw [q] at hz
        have ec := eq_of_beq q
        subst ec
        obtain ⟨a, dx, C2, fv, rfl, h2, hx, _⟩ := r.insE
        have e3 := at0.one h2
        subst e3
        refine ⟨.ref a, .ref C2, .ref C2, .ref C2, true, rfl, .own _, .base (ct0.ty _ a dx fv hx), ?_, hz _ _ e2 (.bl _)⟩
        unfold PySem.W.kitOne
        rw [if_pos (beq_self_eq_true _)]
      | false =>
        rw [q] at hz
        obtain ⟨hc, hz⟩ := cond_all (show (cond (cs.contains c) (T.ret (D.bl false)) .fail).all _ from hz)
        obtain ⟨C, at_, ct, tx⟩ := isi_ins kn hc r
        exact ⟨v, .ref C0, .ref C, .ref C0, false, rfl, .own _, tx, df c C hc q at_, hz _ _ e2 (.bl _)⟩
    · obtain ⟨t, c, hz⟩ := optT_all (T.all_bind.mp hz)
      exact ⟨v, .ref C0, .type t.nm, .ref C0, false, rfl, .own _, ty_of r c, ct0.is t, hz _ _ e2 (.bl _)⟩) (T.all_bind.mp h))⟩
end
end Pd

/-! Comparisons by a class's own method. -/
namespace Pd
open PySem L2 PySem.Spec PyProof.Rows

structure CmpOwn (K : PySem.W.Frag) (C : Addr) (op : CmpOp) (f : Addr) : Prop where
  at_ : PySem.W.findIn K (.ref C) (cmpInfo op).2.1 = some (some (.ref f))
  fn : PySem.W.isFn K (.ref f) = true
  num : PySem.W.notFirst K C (.type "int") = true
  self : PySem.W.notFirst K C (.ref C) = true
section
variable {X : Cx}
theorem op_cmpOwn {op : CmpOp} {k : Nat} {C f : Addr} {fd : FuncData} {ps : List Str} {F : List D → T D} (hop : op ≠ .Is ∧ op ≠ .IsNot ∧ op ≠ .In ∧ op ≠ .NotIn) (O : CmpOwn X.K C op f) (G : FnOk X.prog X.w X.K X.mg X.base CX0 k f fd ps (spD X.K X.prog X.w 2 F)) (hr : Room k X.A) (hb : Binds X.K fd ps []) :
    OpR X (compareOp op) (fun x y H Q => ∃ a dx fv, x = .ref a ∧ H a = some (.ins C dx fv) ∧ ((∃ i, y = .int i) ∨ ∃ b dx2 fw, y = .ref b ∧ H b = some (.ins C dx2 fw)) ∧ spD X.K X.prog X.w 2 F [x, y] H Q E0) := by
  intro pins s σ H x y v u Q I rx ry h
  obtain ⟨a, dx, fv, rfl, ha, hy, h⟩ := h
  cases rx
  obtain ⟨mA, M, _, _, _, _⟩ := ins_get I.hok ha
  obtain ⟨od, J, _⟩ := M.look
  obtain ⟨m, Fr0⟩ := I.fr
  have hu : X.A.units < cLine := by have := hr.un; omega
  have call1 := run_fn (dvs := []) (ds := []) G hr hb .nil pass0 I (vs := [.ref a, y]) (us := [.ref a, u]) (.cons rfl (.cons ry .nil)) h
  have call2 := wpAny_mono call1 (fun r s2 hs => by
    obtain ⟨v2, H2, I2, rv, q⟩ := hs
    exact back_of (Q := EP X pins σ Q) rv ⟨v2, H2, I2, rv, q⟩) fun _ _ z => z
  have rich : ∀ (tb : Value), PySem.W.Looks (model X.prog X.w) s.heap (typeOf u) tb → PySem.W.notFirst X.K C tb = true → wpAny (model X.prog X.w) X.A (compareOp op (.ref a) u) (EP X pins σ Q) X.xe s := fun tb hl hn => by
    have z := PySem.W.cmp_K hu Fr0 I.ok.mod.kin J hl hn O.at_ O.fn call2
    cases op with
    | Is => exact absurd rfl hop.1
    | IsNot => exact absurd rfl hop.2.1
    | In => exact absurd rfl hop.2.2.1
    | NotIn => exact absurd rfl hop.2.2.2
    | _ => exact z
  rcases hy with ⟨i, rfl⟩ | ⟨b, dx2, fw, rfl, hb2⟩
  · obtain ⟨t, rfl⟩ := ry
    exact rich (.type "int") (PySem.W.Looks.of_pure rfl) O.num
  · cases ry
    obtain ⟨mB, M2, _, _, _, _⟩ := ins_get I.hok hb2
    obtain ⟨od2, J2, _⟩ := M2.look
    exact rich (.ref C) J2.type O.self
theorem os_cmpOwn {op : CmpOp} {k : Nat} {c : Str} {C f : Addr} {fd : FuncData} {ps : List Str} {F : List D → T D} (hop : op ≠ .Is ∧ op ≠ .IsNot ∧ op ≠ .In ∧ op ≠ .NotIn) (at_ : ClsAt X.K c C) (O : CmpOwn X.K C op f) (G : FnOk X.prog X.w X.K X.mg X.base CX0 k f fd ps (spD X.K X.prog X.w 2 F)) (hr : Room k X.A) (hb : Binds X.K fd ps []) : OpSnd X (compareOp op) (opOwn c F) := fun {π N H x y dx dy Q} hn rx ry h => by
  unfold opOwn at h
  obtain ⟨fs, rfl, h⟩ := isC_all (T.all_bind.mp h)
  obtain ⟨a, d1, C2, fv, rfl, hc, hx, rf⟩ := id rx.insE
  have e3 := at_.one hc
  subst e3
  refine ⟨_, op_cmpOwn hop O G hr hb, a, d1, fv, rfl, hx, ?_⟩
  obtain ⟨hy, h⟩ := right2_all h
  refine ⟨?_, π, N, _, hn, .cons rx (.cons ry .nil), rfl, h⟩
  rcases hy with ⟨i, rfl⟩ | ⟨gs, rfl⟩
  · exact .inl ⟨i, ry.intE⟩
  · obtain ⟨b, d2, C3, fw, rfl, hc3, hy, _⟩ := id ry.insE
    have e4 := at_.one hc3
    subst e4
    exact .inr ⟨b, d2, fw, rfl, hy⟩
/-- an own comparison, or that of plain data -/
def cmpAny (c : Str) (f : D → D → T D) (F : List D → T D) : D → D → T D
  | .ins c2 fs, y => opOwn c F (.ins c2 fs) y
  | x, y => f x y
theorem os_cmpAny {op : CmpOp} {k : Nat} {c : Str} {C f : Addr} {fd : FuncData} {ps : List Str} {g : D → D → T D} {F : List D → T D} (h0 : OpSnd X (compareOp op) g) (hop : op ≠ .Is ∧ op ≠ .IsNot ∧ op ≠ .In ∧ op ≠ .NotIn) (at_ : ClsAt X.K c C) (O : CmpOwn X.K C op f) (G : FnOk X.prog X.w X.K X.mg X.base CX0 k f fd ps (spD X.K X.prog X.w 2 F)) (hr : Room k X.A) (hb : Binds X.K fd ps []) : OpSnd X (compareOp op) (cmpAny c g F) := fun {π N H x y dx dy Q} hn rx ry h => by
  unfold cmpAny at h
  split at h
  · exact os_cmpOwn hop at_ O G hr hb hn rx ry h
  · exact h0 hn rx ry h
end
end Pd

/-! Whole numbers of any size, texts of numbers, f-strings, identity of bools and None. -/
namespace Pd
open PySem L2 PySem.Spec PyProof.Rows

def bitsOk (i : Int) : Bool := decide (Builtin.Int.intBits i ≤ 2 ^ 20)
/-- products of numbers of up to 2 ** 20 bits -/
def opMulG : D → D → T D
  | .int i, .int j => cond (bitsOk i && bitsOk j) (.ret (.int (i * j))) .fail
  | x, y => opMulT x y
def opFDivG : D → D → T D
  | .int i, .int j => cond (decide (j ≠ 0) && !Builtin.divisionGoesByPylong i j) (.ret (.int (i.fdiv j))) .fail
  | _, _ => .fail
def opModG : D → D → T D
  | .int i, .int j => cond (decide (j ≠ 0)) (.ret (.int (i.fmod j))) .fail
  | _, _ => .fail
section
variable {X : Cx} {e a b : Expr} {pos : Pos} {m ma mb : Rho → T D}
theorem op_mulG : OpR X (binaryOp .Mult) (rI IntMulOk fun i j => .int (i * j)) := L2.opI fun _ _ _ _ _ _ _ hc q => mul_int q hc
theorem os_mulG : OpSnd X (binaryOp .Mult) opMulG := fun {π N H x y dx dy Q} hn rx ry h => by
  unfold opMulG at h
  split at h
  · obtain ⟨hb, h⟩ := cond_all h
    unfold bitsOk at hb
    simp only [Bool.and_eq_true, decide_eq_true_eq] at hb
    cases rx; cases ry
    exact ⟨_, op_mulG, _, _, rfl, rfl, IntMulOk.of_bits hb.1 hb.2, h _ _ (Ex.refl hn.pot) (.int _)⟩
  · exact os_mulT hn rx ry h
theorem op_fdG : OpR X (binaryOp .FloorDiv) (rI (fun i j => j ≠ 0 ∧ Builtin.divisionGoesByPylong i j = false) fun i j => .int (i.fdiv j)) := L2.opI fun _ _ _ _ _ _ _ hc q => floordiv_int hc.1 q (.inl hc.2)
theorem os_fdivG : OpSnd X (binaryOp .FloorDiv) opFDivG := fun {π N H x y dx dy Q} hn rx ry h => by
  unfold opFDivG at h
  split at h
  · obtain ⟨hb, h⟩ := cond_all h
    simp only [Bool.and_eq_true, decide_eq_true_eq, Bool.not_eq_true'] at hb
    cases rx; cases ry
    exact ⟨_, op_fdG, _, _, rfl, rfl, hb, h _ _ (Ex.refl hn.pot) (.int _)⟩
  · exact False.elim h
theorem os_modG : OpSnd X (binaryOp .Mod) opModG := fun {π N H x y dx dy Q} hn rx ry h => by
  unfold opModG at h
  split at h
  · obtain ⟨hb, h⟩ := cond_all h
    cases rx; cases ry
    exact ⟨_, op_modN, _, _, rfl, rfl, of_decide_eq_true hb, h _ _ (Ex.refl hn.pot) (.int _)⟩
  · exact False.elim h
/-! str(..) of whole numbers and texts -/
def strD : D → Option Str
  | .int i => cond (decide (i.natAbs.log2 < 1920)) (some (toString i)) none
  | .str x => cond (decide (x.length ≤ 100000)) (some x) none
  | _ => none
def bStr : List D → T D
  | [d] => (optT (strD d)).bind fun x => .ret (.str x)
  | _ => .fail
theorem strD_some {d : D} {x : Str} (h : strD d = some x) : (∃ i : Int, d = .int i ∧ i.natAbs.log2 < 1920 ∧ x = toString i) ∨ (d = .str x ∧ x.length ≤ sizeLine) := by
  unfold strD at h
  split at h
  · rename_i i
    cases c : decide (i.natAbs.log2 < 1920) with
    | true => rw [c] at h; cases h; exact .inl ⟨i, rfl, of_decide_eq_true c, rfl⟩
    | false => rw [c] at h; cases h
  · rename_i y
    cases c : decide (y.length ≤ 100000) with
    | true => rw [c] at h; cases h; exact .inr ⟨rfl, Nat.le_trans (of_decide_eq_true c) (by decide)⟩
    | false => rw [c] at h; cases h
  · cases h
theorem cs_str : CaSnd X (.type "str") bStr := fun {π N H xs ds Q} hn r h => by
  unfold bStr at h
  split at h
  · obtain ⟨x, eq1, g1⟩ := optT_all (T.all_bind.mp h)
    cases r with
    | cons r t =>
    cases t
    rcases strD_some eq1 with ⟨i, rfl, hi, rfl⟩ | ⟨rfl, hx⟩
    · cases r
      exact ⟨_, call_str_int, i, rfl, hi, g1 _ _ (Ex.refl hn.pot) (.str _)⟩
    · cases r
      exact ⟨_, SkE.call_str_str, x, rfl, g1 _ _ (Ex.refl hn.pot) (.str _)⟩
  · exact False.elim h
/-! f'..{x}..' -/
def eFmt (m : Rho → T D) : Rho → T D := fun ρ => (m ρ).bind fun d => (optT (strD d)).bind fun x => .ret (.str x)
theorem s_fmt (ha : Snd X e m) : Snd X (.FormattedValue e (-1) none pos) (eFmt m) := fun {π N0 H0 N H σ ρ Q} I h =>
  ⟨_, pe_fmt pe_wp, ha I (T.all_mono (fun d hd => by
    intro v H2 e2 r
    obtain ⟨x, eq1, g1⟩ := optT_all (T.all_bind.mp hd)
    rcases strD_some eq1 with ⟨i, rfl, hi, rfl⟩ | ⟨rfl, hx⟩
    · cases r
      exact .inr ⟨i, rfl, hi, g1 _ _ e2 (.str _)⟩
    · cases r
      exact .inl ⟨x, rfl, hx, g1 _ _ e2 (.str _)⟩) (T.all_bind.mp h))⟩
inductive SndJ (X : Cx) : List Expr → List (Rho → T D) → Prop where
  | nil : SndJ X [] []
  | cons {e : Expr} {m : Rho → T D} {es : List Expr} {ms : List (Rho → T D)} : Snd X e m → SndJ X es ms → SndJ X (e :: es) (m :: ms)
def joinT : List (Rho → T D) → Str → Rho → T D
  | [], acc, _ => .ret (.str acc)
  | m :: ms, acc, ρ => (m ρ).bind fun d => match d with
    | .str y => cond (decide ((acc ++ y).length ≤ 100000)) (joinT ms (acc ++ y) ρ) .fail
    | _ => .fail
theorem sndJ_wp : ∀ {es : List Expr} {ms : List (Rho → T D)}, SndJ X es ms → PJ X es (es.map (wpE X))
  | _, _, .nil => .nil
  | _, _, .cons _ r => .cons pe_wp (sndJ_wp r)
theorem join_run {π : Addr} {N0 : Addr → Bool} {H0 : Hp} {N : Addr → Bool} {σ : L2.St} {ρ : Rho} : ∀ {es : List Expr} {ms : List (Rho → T D)} {acc : Str} {H : Hp} {Q : VK}, SndJ X es ms → EnvOk X.K X.prog X.w π N0 H0 N H σ ρ → (joinT ms acc ρ).all (Kd X π N H Q) → tJs (es.map (wpE X)) acc σ H fun out H1 => Q (.str out) H1
  | _, _, _, H, _, .nil, I, h => h _ H (Ex.refl I.hn.pot) (.str _)
  | _, _, acc, H, Q, .cons he hr, I, h => by
    refine he I (T.all_mono (fun d hd => ?_) (T.all_bind.mp h))
    intro v H2 e2 r
    split at hd
    · obtain ⟨hl, hd⟩ := cond_all hd
      cases r
      exact ⟨_, rfl, Nat.le_trans (of_decide_eq_true hl) (by decide), join_run hr (I.ext e2) (T.all_mono (fun _ q => q.up e2) hd)⟩
    · exact False.elim hd
theorem s_join {v1 v2 : Expr} {rest : List Expr} {ms : List (Rho → T D)} (h : SndJ X (v1 :: v2 :: rest) ms) : Snd X (.JoinedStr (v1 :: v2 :: rest) pos) (joinT ms Str.empty) := fun {π N0 H0 N H σ ρ Q} I q => ⟨_, pe_joined (sndJ_wp h), join_run h I q⟩
theorem s_join1 (h : Snd X e m) : Snd X (.JoinedStr [e] pos) m := fun {π N0 H0 N H σ ρ Q} I q => ⟨_, pe_joined1 pe_wp, h I q⟩
/-! is, of bools -/
theorem op_isB : OpR X (compareOp .Is) (fun x y H Q => ∃ i j, x = .bl i ∧ y = .bl j ∧ Q (.bl (i == j)) H) := by
  intro pins s σ H x y v u Q I rx ry h
  obtain ⟨i, j, rfl, rfl, q⟩ := h
  cases rx; cases ry
  show wpAny _ _ (do return Value.bool (← isSame (Value.bool i) (Value.bool j))) _ _ _
  have e : isSame (Value.bool i) (Value.bool j) = pure (i == j) := by cases i <;> cases j <;> rfl
  rw [e]
  exact wpAny_bind (wpAny_pure (wpAny_pure ⟨.bl (i == j), H, I, rfl, q⟩))
def opIs : D → D → T D
  | .bl i, .bl j => .ret (.bl (i == j))
  | _, _ => .fail
theorem os_is : OpSnd X (compareOp .Is) opIs := fun {π N H x y dx dy Q} hn rx ry h => by
  unfold opIs at h
  split at h
  · rename_i i j
    have e1 := rx.bool
    have e2 := ry.bool
    subst e1 e2
    exact ⟨_, op_isB, i, j, rfl, rfl, h _ _ (Ex.refl hn.pot) (.bl _)⟩
  · exact False.elim h
end
end Pd

/-! str(o), repr(o) by o's own methods; C(k = v, ..), o.m(k = v, ..). -/
namespace Pd
open PySem L2 PySem.Spec PyProof.Rows

structure OwnTxt (K : PySem.W.Frag) (C : Addr) (nm : Str) (f : Addr) : Prop where
  at_ : PySem.W.findIn K (.ref C) nm = some (some (.ref f))
  fn : PySem.W.isFn K (.ref f) = true
def asStr : D → T D
  | .str x => .ret (.str x)
  | _ => .fail
theorem asStr_all {d : D} {P : D → Prop} (h : (asStr d).all P) : ∃ x, d = .str x ∧ P (.str x) := by
  unfold asStr at h
  split at h
  · exact ⟨_, rfl, h⟩
  · exact False.elim h
/-- a text by the own method for instances of c, by g for all else -/
def txtC (c : Str) (F g : List D → T D) : List D → T D
  | [.ins c2 fs] => (isC c (.ins c2 fs)).bind fun _ => (F [.ins c2 fs]).bind asStr
  | ds => g ds
section
variable {X : Cx} {e : Expr} {es : List Expr} {pos : Pos} {m : Rho → T D}
theorem call_strC {k : Nat} {C f : Addr} {fd : FuncData} {ps : List Str} {F : List D → T D} (O : OwnTxt X.K C "__str__" f) (G : FnOk X.prog X.w X.K X.mg X.base CX0 k f fd ps (spD X.K X.prog X.w 1 F)) (hr : Room (k + 2) X.A) (hb : Binds X.K fd ps []) :
    CallR X (.type "str") (fun xs H Q => ∃ a dx fv, xs = [.ref a] ∧ H a = some (.ins C dx fv) ∧ spD X.K X.prog X.w 1 F [.ref a] H (fun v H2 => ∃ x, v = .str x ∧ Q v H2) E0) := by
  intro pins s σ H xs us Q I r h
  obtain ⟨a, dx, fv, rfl, ha, h⟩ := h
  obtain ⟨u, rfl, ru⟩ := vals1 r
  cases ru
  obtain ⟨mA, M, _, _, _, _⟩ := ins_get I.hok ha
  obtain ⟨od, J, _⟩ := M.look
  have hl := G.len _ _ _ _ h
  refine PySem.W.kso_call (by have := hr.un; show X.A.units + 1 + 1 < cLine; omega) I.kIn J O.at_ O.fn (wpAny_call (codeAny_mono (G.run X.A.in1.in1 X.stack s H ⟨[.ref a], []⟩ [.ref a] [.ref a] _ E0 hr.in1.in1 I.env0.in1.in1 (hb s [.ref a] I.kIn hl) (.cons rfl .nil) h) fun r s' hq => ?_))
  cases r with
  | error er => exact pass0 pins σ H s er s' I hq
  | ok fl =>
    cases fl with
    | ret u =>
      obtain ⟨v, H', I3, rv, x, ex, q⟩ := I.after hq
      subst ex
      obtain ⟨t, rfl⟩ := rv
      exact ⟨.str x, H', I3, ⟨t, rfl⟩, q⟩
    | next => exact False.elim hq
    | brk => exact False.elim hq
    | cont => exact False.elim hq
theorem call_reprC {k : Nat} {C f : Addr} {fd : FuncData} {ps : List Str} {F : List D → T D} (O : OwnTxt X.K C "__repr__" f) (G : FnOk X.prog X.w X.K X.mg X.base CX0 k f fd ps (spD X.K X.prog X.w 1 F)) (hr : Room (k + 1) X.A) (hb : Binds X.K fd ps []) :
    CallR X (.builtin "repr") (fun xs H Q => ∃ a dx fv, xs = [.ref a] ∧ H a = some (.ins C dx fv) ∧ spD X.K X.prog X.w 1 F [.ref a] H (fun v H2 => ∃ x, v = .str x ∧ Q v H2) E0) := by
  intro pins s σ H xs us Q I r h
  obtain ⟨a, dx, fv, rfl, ha, h⟩ := h
  obtain ⟨u, rfl, ru⟩ := vals1 r
  cases ru
  obtain ⟨mA, M, _, _, _, _⟩ := ins_get I.hok ha
  obtain ⟨od, J, _⟩ := M.look
  obtain ⟨m, Fr0⟩ := I.fr
  have hl := G.len _ _ _ _ h
  refine PySem.W.repr_K (by have := hr.un; show X.A.units + 1 < cLine; omega) Fr0 I.ok.mod.kin J O.at_ O.fn (wpAny_call (codeAny_mono (G.run X.A.in1 X.stack s H ⟨[.ref a], []⟩ [.ref a] [.ref a] _ E0 hr.in1 I.env0.in1 (hb s [.ref a] I.kIn hl) (.cons rfl .nil) h) fun r s' hq => ?_))
  cases r with
  | error er => exact pass0 pins σ H s er s' I hq
  | ok fl =>
    cases fl with
    | ret u =>
      obtain ⟨v, H', I3, rv, x, ex, q⟩ := I.after hq
      subst ex
      obtain ⟨t, rfl⟩ := rv
      exact ⟨.str x, H', I3, ⟨t, rfl⟩, q⟩
    | next => exact False.elim hq
    | brk => exact False.elim hq
    | cont => exact False.elim hq
theorem txt_of {c : Str} {C : Addr} {f : Value} {F g : List D → T D} (at_ : ClsAt X.K c C) (h0 : CaSnd X f g) (h1 : CallR X f (fun xs H Q => ∃ a dx fv, xs = [.ref a] ∧ H a = some (.ins C dx fv) ∧ spD X.K X.prog X.w 1 F [.ref a] H (fun v H2 => ∃ x, v = .str x ∧ Q v H2) E0)) : CaSnd X f (txtC c F g) := fun {π N H xs ds Q} hn r h => by
  unfold txtC at h
  split at h
  · rename_i c2 fs
    obtain ⟨fs, e, h⟩ := isC_all (T.all_bind.mp h)
    cases e
    cases r with
    | cons r t =>
    cases t
    obtain ⟨a, d1, C2, fv, rfl, hc, hx, rf⟩ := id r.insE
    have e3 := at_.one hc
    subst e3
    refine ⟨_, h1, a, d1, fv, rfl, hx, π, N, _, hn, .cons r .nil, rfl, T.all_mono (fun d hd v H2 e r => ?_) (T.all_bind.mp h)⟩
    obtain ⟨x, rfl, hd⟩ := asStr_all hd
    cases r
    exact ⟨x, rfl, hd _ _ e (.str x)⟩
  · exact h0 hn r h
/-! by keywords alone -/
def KBind1 (K : PySem.W.Frag) (fd : FuncData) (ps ks : List Str) (perm : List Nat) : Prop := ∀ (s : Shared) (r : Value) (us : List Value), K.In s.heap → us.length = ks.length → BindsTo s fd ⟨[r], ks.zip us⟩ (ps.zip (r :: perm.map fun i => us.getD i .none))
def eMakeK (c : Str) (n : Nat) (perm : List Nat) (F : List D → T (List (Str × D))) (ms : Rho → T (List D)) : Rho → T D := fun ρ => (ms ρ).bind fun ds => cond (ds.length == n) ((F (pickD perm ds)).bind fun fs => .ret (.ins c fs)) .fail
theorem KBind1.kbn {K : PySem.W.Frag} {fd : FuncData} {ps ks : List Str} {perm : List Nat} (h : KBind1 K fd ps ks perm) : KBn K fd ps 1 ks (fun us ws => us ++ perm.map fun i => ws.getD i .none) (fun vs zs => vs ++ perm.map fun i => zs.getD i .non) :=
  ⟨fun s us ws X l1 l2 => match us, l1 with | [r], _ => h s r ws X l2, fun r rz => r.append (vals_pick rz perm)⟩
theorem s_makeK {k n : Nat} {C f : Addr} {fd : FuncData} {ps ks : List Str} {perm : List Nat} {c x : Str} {p : Pos} {F : List D → T (List (Str × D))} {kws : List Keyword} {ms : Rho → T (List D)} (M : Mk X.K C f) (G : FnOk X.prog X.w X.K X.mg X.base CX0 k f fd ps (spI X.K X.prog X.w c n F)) (hr : Room (k + 1) X.A) (hm : X.mg x = some (.ref C)) (at_ : ClsAt X.K c C)
    (hb : KBind1 X.K fd ps ks perm) (hp : perm.length = n) (hkn : ks.length = n) (ha : SndK X kws ms) (hg : Gl X x := by rfl) (hall : (backToKw pos (keywordEach kws X.env)).all (·.1.isSome) = true := by rfl) (hks : (backToKw pos (keywordEach kws X.env)).filterMap (·.1) = ks := by rfl)
    (hdb : (x == ("__debug__" : Str)) = false := by decide) (hpl : ((backTo pos (starEach [] X.env)).any (·.1) || (backToKw pos (keywordEach kws X.env)).any (·.1.isNone)) = false := by rfl) : Snd X (.Call (.Name x p) [] kws pos) (eMakeK c n perm F ms) := fun {π N0 H0 N H σ ρ Q} I h =>
  ⟨_, pe_makeK0 M G hr hg hm hb.kbn pass0 pk_wp hall hks hdb hpl, ha I (T.all_mono (fun ds hds vs H1 e1 r => by
    obtain ⟨hl, hds⟩ := cond_all hds
    have hl : ds.length = n := by simpa using hl
    refine ⟨rfl, by rw [r.length, hl, hkn], fun x dx hx hdx ne => ?_⟩
    have hn := I.hn.ext e1
    obtain ⟨a1, a2, a3⟩ := made_env (C := C) hn hx hdx ne
    have Nx : N x = false := hn.new hx
    refine ⟨π, plus N x, x, dx, C, perm.map fun i => vs.getD i .non, pickD perm ds, rfl, by rw [List.length_map, hp], a1, plus_self, upd_same, at_, rvl_pick (r.mono a2) perm, T.all_mono (fun fs q H' fv keep pot hx2 rf => ⟨rfl, ?_⟩) (T.all_bind.mp hds)⟩
    have k2 : Kp π (Hide (plus N x) H') (Hide N H') := Kp.less fun a h => plus_old h
    refine q (.ref x) H' ⟨fun a o n h => ?_, pot⟩ (.ins at_ (by rw [hide_in Nx]; exact hx2) (hn.pot.ne hx) (RvF.mono k2 rf))
    have h1 := e1.kp a o n h
    exact keep a o n (ne_of_none h1 hx) (a3 a o h1)) (T.all_bind.mp h))⟩
/-- o.m(k = v, ..) -/
def eMethK (c m : Str) (n : Nat) (perm : List Nat) (F : List D → T D) (ma : Rho → T D) (ms : Rho → T (List D)) : Rho → T D := fun ρ => (ma ρ).bind fun d => (insD c m d).bind fun _ => (ms ρ).bind fun ds => cond (ds.length == n) (F (d :: pickD perm ds)) .fail
theorem s_methK {k n : Nat} {C f : Addr} {fd : FuncData} {ps ks : List Str} {perm : List Nat} {c m : Str} {F : List D → T D} {o : Expr} {mo : Rho → T D} {apos : Pos} {pl : Sem Bool} {kws : List Keyword} {ms : Rho → T (List D)} (at_ : ClsAt X.K c C) (cl : Cls X.K C) (hm : Meth X.K C m f) (G : FnOk X.prog X.w X.K X.mg X.base CX0 k f fd ps (spD X.K X.prog X.w (n + 1) F)) (hr : Room k X.A)
    (hb : KBind1 X.K fd ps ks perm) (hp : perm.length = n) (hkn : ks.length = n)
    (ho : Snd X o mo) (ha : SndK X kws ms) (hall : (backToKw pos (keywordEach kws X.env)).all (·.1.isSome) = true := by rfl) (hks : (backToKw pos (keywordEach kws X.env)).filterMap (·.1) = ks := by rfl)
    (hpl : ((backTo pos (starEach [] X.env)).any (·.1) || (backToKw pos (keywordEach kws X.env)).any (·.1.isNone)) = false := by rfl)
    (ht : eval (.Call (.Attribute o m apos) [] kws pos) X.env = (do
      let ov ← eval o X.env
      standAt apos.atName
      let (f, first) ← holding [ov] (getMethod ov m pl)
      callWith pos f first (backTo pos (starEach [] X.env)) (backToKw pos (keywordEach kws X.env))) := by rfl) :
    Snd X (.Call (.Attribute o m apos) [] kws pos) (eMethK c m n perm F mo ms) := fun {π N0 H0 N H σ ρ Q} I h => by
  refine ⟨fun σ H Q => wpE X o σ H fun x H1 => ∃ a dx fv, x = .ref a ∧ H1 a = some (.ins C dx fv) ∧ fv.lookup m = none ∧ wpK X kws σ H1 fun zs H2 => zs.length = n ∧ spD X.K X.prog X.w (n + 1) F (.ref a :: perm.map fun i => zs.getD i .non) H2 Q E0, ⟨fun pins s σ H Q J q => ?_⟩, ?_⟩
  · refine PySem.W.methodCall_KW (pl := pl) (thn (pe_wp.run pins s σ H _ J q) fun u s1 ⟨x, H1, I1, rx, a, dx, fs, ex, ea, l, q⟩ => ?_) ht
    subst ex
    obtain rfl : u = Value.ref a := rx
    refine getmeth_ok I1 ea cl hm l ?_
    refine PySem.W.callWith_KW0 (first := [.ref a]) (h₀ := X.base) I1.ok.mod.kin hm.kp hall (thn (pk_wp.run pos pins s1 σ H1 _ I1 q) fun ws s2 ⟨zs, H2, I2, rz, hz, q2⟩ => ⟨I2.kIn, ?_⟩) hpl
    rw [hks]
    show wpAny _ _ (call (.ref f) [.ref a] (ks.zip ws)) _ _ _
    have r2 := vals_pick rz perm
    refine wpAny_call (codeAny_mono (G.run X.A X.stack s2 H2 ⟨[.ref a], ks.zip ws⟩ (.ref a :: perm.map fun i => ws.getD i .none) (.ref a :: perm.map fun i => zs.getD i .non) Q E0 hr I2.env0 (hb s2 (.ref a) ws I2.kIn (by rw [← rz.length, hz, hkn])) (.cons rfl r2) q2) fun r s' hq => ?_)
    cases r with
    | error e => exact pass0 pins σ H2 s2 e s' I2 hq
    | ok fl =>
      cases fl with
      | ret u => exact I2.after hq
      | next => exact False.elim hq
      | brk => exact False.elim hq
      | cont => exact False.elim hq
  · refine ho I (T.all_mono (fun d hd => ?_) (T.all_bind.mp h))
    intro x H1 e1 rx
    obtain ⟨fs, rfl, nf, hd⟩ := insD_all (T.all_bind.mp hd)
    obtain ⟨a, dx, C2, fv, rfl, hc, hx, rf⟩ := id rx.insE
    have e3 := at_.one hc
    subst e3
    refine ⟨a, dx, fv, rfl, hx, rf.none_of nf, ha (I.ext e1) (T.all_mono (fun ds hd => ?_) (T.all_bind.mp hd))⟩
    intro vs H2 e2 r
    obtain ⟨hl, hd⟩ := cond_all hd
    have hl : ds.length = n := by simpa using hl
    refine ⟨by rw [r.length]; exact hl, π, N, _, I.hn.ext (e1.trans e2), .cons (rx.mono e2.kp.hide) (rvl_pick r perm), by rw [List.length_cons, List.length_map, hp], T.all_mono (fun _ q v H3 e3 r3 => q v H3 ((e1.trans e2).trans e3) r3) hd⟩
end
end Pd

/-! xs[::-1], list * n, a class's own method called on the class. -/
namespace Pd
open PySem L2 PySem.Spec PyProof.Rows
section
variable {X : Cx} {a b e : Expr} {es : List Expr} {ma mb m : Rho → T D} {pos : Pos}
theorem RvL.reverse {K : PySem.W.Frag} {P : Program} {w : World} {π : Addr} {H : Hp} : ∀ {ds : List D} {vs : List V}, RvL K P w π H vs ds → RvL K P w π H vs.reverse ds.reverse
  | _, _, .nil => .nil
  | _, _, .cons r t => by
    rw [List.reverse_cons, List.reverse_cons]
    exact (RvL.reverse t).append (.cons r .nil)
def lRev (m : Rho → T D) : Rho → T (List D) := fun ρ => (m ρ).bind fun d => (asL d).bind fun ds => .ret ds.reverse
theorem asL_all {d : D} {P : List D → Prop} (h : (asL d).all P) : ∃ ds, d = .lst ds ∧ P ds := by
  unfold asL at h
  split at h
  · exact ⟨_, rfl, h⟩
  · exact False.elim h
theorem Kl.made {π : Addr} {N : Addr → Bool} {H H1 : Hp} {Q : VK} {ds : List D} {vs : List V} {p : Addr} (h : Kl X π N H Q ds) (pt : PotOk H π) (e : Ex π H H1) (r : RvL X.K X.prog X.w π (Hide N H1) vs ds) (hp : H1 p = none) : Q (.ref p) (upd H1 p (.lst vs)) := by
  have hp0 : H p = none := by
    cases c : H p with
    | none => rfl
    | some o => rw [e.kp p o (e.pot.ne hp) c] at hp; cases hp
  exact h p vs _ (e.trans (Ex.new e.pot hp)) hp0 upd_same (r.mono ((Ex.new e.pot hp).hidden hp))
theorem sl_rev {k : Nat} {p1 p2 p3 : Pos} (ha : Snd X a ma) : SndL X (.Subscript a (.Slice none none (some (.UnaryOp .USub (.Constant (.int 1) k p1) p2)) p3) pos) (lRev ma) := fun {π N0 H0 N H σ ρ Q} I h =>
  ⟨_, pe_revL pe_wp, ha I (T.all_mono (fun d hd v H1 e r => by
    obtain ⟨ds, rfl, hd⟩ := asL_all (T.all_bind.mp hd)
    obtain ⟨l, vs, rfl, hl, _, _, rl⟩ := id r.lstE
    exact ⟨l, vs, rfl, .inl (.inl hl), fun p hp => Kl.made hd I.hn.pot e rl.reverse hp⟩) (T.all_bind.mp h))⟩
def lRep (ma mb : Rho → T D) : Rho → T (List D) := fun ρ => (ma ρ).bind fun d => (asL d).bind fun ds => (mb ρ).bind fun k => match k with
  | .int k => cond (decide (0 ≤ k) && decide (k ≤ 1000) && decide (ds.length ≤ 100)) (.ret (rep k.toNat ds)) .fail
  | _ => .fail
theorem sl_rep (ha : Snd X a ma) (hb : Snd X b mb) : SndL X (.BinOp a .Mult b pos) (lRep ma mb) := fun {π N0 H0 N H σ ρ Q} I h =>
  ⟨_, pe_op op_rep pe_wp pe_wp, ha I (T.all_mono (fun d hd v H1 e r => by
    obtain ⟨ds, rfl, hd⟩ := asL_all (T.all_bind.mp hd)
    refine hb (I.ext e) (T.all_mono (fun k hk v2 H2 e2 r2 => ?_) (T.all_bind.mp hd))
    split at hk
    · rename_i k
      obtain ⟨hc, hk⟩ := cond_all hk
      simp only [Bool.and_eq_true, decide_eq_true_eq] at hc
      obtain ⟨⟨c0, c1⟩, c2⟩ := hc
      cases r2
      obtain ⟨l, vs, rfl, hl, n1, n2, rl⟩ := id r.lstE
      have hl2 := e2.kp l _ n2 hl
      refine ⟨l, k, vs, rfl, rfl, hl2, by omega, by omega, ?_, fun p hp => Kl.made hk I.hn.pot (e.trans e2) (rep_rv (rl.mono e2.kp.hide) _) hp⟩
      rw [rl.length]
      have : ds.length * k.toNat ≤ 100 * 1000 := Nat.mul_le_mul c2 (by omega)
      exact Nat.le_trans this (by decide)
    · exact False.elim hk) (T.all_bind.mp h))⟩
/-! C.m(..), m a classmethod -/
def spC (K : PySem.W.Frag) (P : Program) (w : World) (C : Addr) (n : Nat) (F : List D → T D) : Sp := fun vs H Q E => ∃ args, vs = .ref C :: args ∧ spD K P w n F args H Q E
theorem s_cmeth {k n : Nat} {C p g : Addr} {mc : Value} {c m : Str} {F : List D → T D} {np apos : Pos} {pl : Sem Bool} {ms : Rho → T (List D)} (at_ : X.mg c = some (.ref C)) (r : ClX.CRead X.K C mc) (cm : ClX.CMet X.K C mc m p g) (G : FnR X.prog X.w X.K X.mg X.base CX0 k g (spC X.K X.prog X.w C n F)) (hr : Room k X.A)
    (ha : SndA X (e :: es) ms) (hg : Gl X c := by rfl) (hdb : (c == ("__debug__" : Str)) = false := by decide) (hst : starEach (e :: es) X.env = (false, eval e X.env) :: starEach es X.env := by rfl) (hpl : (backTo pos (starEach es X.env)).any (·.1) = false := by rfl)
    (ht : eval (.Call (.Attribute (.Name c np) m apos) (e :: es) [] pos) X.env = (do
      let ov ← eval (.Name c np) X.env
      standAt apos.atName
      let (f, first) ← holding [ov] (getMethod ov m pl)
      callWith pos f first (backTo pos (starEach (e :: es) X.env)) (backToKw pos (keywordEach [] X.env))) := by rfl) :
    Snd X (.Call (.Attribute (.Name c np) m apos) (e :: es) [] pos) (eCall n F ms) := fun {π N0 H0 N H σ ρ Q} I h =>
  ⟨_, ClX.pe_cmeth (pe_glob (v := .ref C) hg at_ rfl hdb) r cm G hr pass0 pa_wp hst hpl ht, rfl, ha I (T.all_mono (fun ds hd vs H1 e1 r => by
    obtain ⟨hl, hd⟩ := cond_all hd
    exact ⟨vs, rfl, π, N, ds, I.hn.ext e1, r, by rw [r.length]; exact by simpa using hl, T.all_mono (fun d q v H3 e3 r3 => q v H3 (e1.trans e3) r3) hd⟩) (T.all_bind.mp h))⟩
/-- .. by keywords alone -/
theorem s_cmethK {k n : Nat} {C p g : Addr} {fd : FuncData} {ps ks : List Str} {perm : List Nat} {mc : Value} {c m : Str} {F : List D → T D} {np apos : Pos} {pl : Sem Bool} {kws : List Keyword} {ms : Rho → T (List D)} (at_ : X.mg c = some (.ref C)) (r : ClX.CRead X.K C mc) (cm : ClX.CMet X.K C mc m p g) (G : FnOk X.prog X.w X.K X.mg X.base CX0 k g fd ps (spC X.K X.prog X.w C n F)) (hr : Room k X.A)
    (hb : KBind1 X.K fd ps ks perm) (hp : perm.length = n) (hkn : ks.length = n)
    (ha : SndK X kws ms) (hg : Gl X c := by rfl) (hdb : (c == ("__debug__" : Str)) = false := by decide) (hall : (backToKw pos (keywordEach kws X.env)).all (·.1.isSome) = true := by rfl) (hks : (backToKw pos (keywordEach kws X.env)).filterMap (·.1) = ks := by rfl)
    (hpl : ((backTo pos (starEach [] X.env)).any (·.1) || (backToKw pos (keywordEach kws X.env)).any (·.1.isNone)) = false := by rfl)
    (ht : eval (.Call (.Attribute (.Name c np) m apos) [] kws pos) X.env = (do
      let ov ← eval (.Name c np) X.env
      standAt apos.atName
      let (f, first) ← holding [ov] (getMethod ov m pl)
      callWith pos f first (backTo pos (starEach [] X.env)) (backToKw pos (keywordEach kws X.env))) := by rfl) :
    Snd X (.Call (.Attribute (.Name c np) m apos) [] kws pos) (eCallK n perm F ms) := fun {π N0 H0 N H σ ρ Q} I h => by
  refine ⟨fun σ H Q => wpK X kws σ H fun zs H2 => zs.length = n ∧ spD X.K X.prog X.w n F (perm.map fun i => zs.getD i .non) H2 Q E0, ⟨fun pins s σ H Q J q => ?_⟩, ?_⟩
  · refine PySem.W.methodCall_KW (pl := pl) (thn ((pe_glob (v := .ref C) (pos := np) hg at_ rfl hdb).run pins s σ H (fun v H1 => v = .ref C ∧ H1 = H) J ⟨rfl, rfl⟩) fun u s1 ⟨x, H1, I1, rx, ex, eh⟩ => ?_) ht
    subst ex eh
    obtain rfl : u = Value.ref C := rx
    refine ClX.getmethcm_ok I1 r cm fun s2 I2 => ?_
    refine PySem.W.callWith_of (P := PySem.W.MethP X.K s1.heap.objs.size g (.ref C)) hpl (PySem.W.keeps_M cm.fi) (evalArgs_kw2_nil hall (thn (pk_wp.run pos _ s2 σ H1 _ I2 q) fun ws s3 ⟨zs, H2, I3, rz, hz, q2⟩ => ⟨⟨ClX.pin_at I3, I3.kIn⟩, ?_⟩))
    rw [hks]
    show wpAny _ _ (call (.ref s1.heap.objs.size) [] (ks.zip ws)) _ _ _
    have r2 := vals_pick rz perm
    have z : wpAny (model X.prog X.w) X.A (call (.ref s1.heap.objs.size) [] (ks.zip ws)) (EP X ((s1.heap.objs.size, PySem.W.methodObj (.ref g) (.ref C)) :: pins) σ Q) X.xe s3 := by
      refine wpAny_call (PySem.W.method_call (ClX.pin_at I3) (codeAny_mono (G.run X.A X.stack s3 H2 ⟨[.ref C], ks.zip ws⟩ (.ref C :: perm.map fun i => ws.getD i .none) (.ref C :: perm.map fun i => zs.getD i .non) Q E0 hr I3.env0 (hb s3 (.ref C) ws I3.kIn (by rw [← rz.length, hz, hkn])) (.cons rfl r2) ⟨_, rfl, q2⟩) fun r s' hq => ?_))
      cases r with
      | error e => exact pass0 _ σ H2 s3 e s' I3 hq
      | ok fl =>
        cases fl with
        | ret u => exact I3.after hq
        | next => exact False.elim hq
        | brk => exact False.elim hq
        | cont => exact False.elim hq
    exact thn z fun _ _ y => ClX.unpinE y
  · refine ha I (T.all_mono (fun ds hd => ?_) (T.all_bind.mp h))
    intro vs H2 e1 r
    obtain ⟨hn, hd⟩ := cond_all hd
    have hn : ds.length = n := by simpa using hn
    exact ⟨by rw [r.length]; exact hn, π, N, pickD perm ds, I.hn.ext e1, rvl_pick r perm, by rw [List.length_map]; exact hp, T.all_mono (fun d q v H3 e3 r3 => q v H3 (e1.trans e3) r3) hd⟩
end
end Pd

/-! {} as a value, isinstance with dicts about, isinstance(x, (T1, T2)); a name ahead of the known ones. -/
namespace Pd
open PySem L2 PySem.Spec PyProof.Rows
section
variable {X : Cx} {π : Addr} {N0 N : Addr → Bool} {H0 H : Hp} {pins : List (Addr × Obj)} {σ : L2.St} {ρ : Rho} {s : Shared} {pos : Pos} {e : Expr} {m : Rho → T D}
theorem pe_dict0 : PE X (.Dict [] [] pos) (fun _ H Q => ∀ p od, H p = none → Q (.ref p) (upd H p (.frz od (DN X.prog X.w p [])))) := ⟨fun pins s σ H Q I h => by
  have hn := I.hok.fresh (Nat.le_refl s.heap.objs.size)
  have I1 := I.laid (a := s.heap.objs.size) (o := DN X.prog X.w s.heap.objs.size []) (h' := s.heap.push { cls := .type "dict", data := .dict #[] }) (t' := s.toks) (fun _ _ q => Heap.get?_push_of_some _ q) (Nat.le_refl _) (dn_empty s.heap I.big)
  obtain ⟨od, I2⟩ := I1.lock upd_same True.intro
  rw [upd_upd] at I2
  exact wpAny_Dict_empty ⟨.ref s.heap.objs.size, _, I2, rfl, h _ od hn⟩⟩
theorem s_dict0 : Snd X (.Dict [] [] pos) (eC (.dic [])) := fun {π N0 H0 N H σ ρ Q} I h => ⟨_, pe_dict0, fun p od hp => by
  have Np := I.hn.new hp
  exact h (.ref p) _ (Ex.new I.hn.pot hp) (.dic (by rw [hide_in Np]; exact upd_same) (I.hn.pot.ne hp) .nil)⟩
/-! isinstance -/
theorem call_isiD : CallR X (.builtin "isinstance") (fun xs H Q => ∃ (a : Addr) (ys : List (NestedKey × Addr × V)) (c : V) (u : Value) (b : Bool), xs = [.ref a, c] ∧ ClsV c u ∧ Rd H a (DN X.prog X.w a ys) ∧ EntAt X H ys ∧ PySem.W.kitOne X.K (.type "dict") u = some b ∧ Q (.bl b) H) := by
  intro pins s σ H xs us Q I r h
  obtain ⟨a, ys, c, u, b, rfl, k, hr, en, e, q⟩ := h
  obtain ⟨u1, u2, rfl, r1, r2⟩ := vals2 r
  cases (show u1 = Value.ref a from r1)
  have e2 := k.eq r2
  subst e2
  obtain ⟨_, _, zs, _, o, es, ep, h1, h2, _⟩ := dn_of I hr en
  exact PySem.W.kia_one PySem.W.kitx_dict I.kIn ⟨o, h1, h2.1⟩ e (fun z => nomatch z) fun tk => ⟨.bl b, H, I.tok tk, rfl, q⟩
def isDY (cs : List Str) (k : Ty5) (d : D) : T D := match d with
  | .dic _ => .ret (.bl false)
  | d => isDC cs k d
def isOY (cs : List Str) (c0 : Str) (d : D) : T D := match d with
  | .dic _ => .ret (.bl false)
  | d => isOC cs c0 d
theorem kit_dict (k : Ty5) : kitB "dict" k.nm = some false := by cases k <;> decide +kernel
theorem Rv.dicR {K : PySem.W.Frag} {P : Program} {w : World} {π : Addr} {N : Addr → Bool} {H : Hp} {v : V} {kvs : List (D × D)} (r : Rv K P w π (Hide N H) v (.dic kvs)) : ∃ a xs, v = .ref a ∧ Rd H a (DN P w a xs) ∧ ∃ kvs', RvD K P w π (Hide N H) xs kvs' := by
  obtain ⟨a, od, xs, rfl, h, _, _, rd⟩ := r.dicE
  exact ⟨a, xs, rfl, .inr ⟨od, h⟩, _, rd⟩
theorem s_isinstY (cs : List Str) {k : Ty5} {ty : Str} {p p2 : Pos} (kn : KnownC X.K cs) (hm : X.mg "isinstance" = none) (hmt : X.mg ty = none) (hb : bootBuiltins ty = some (.type k.nm)) (ha : Snd X e m) (hg : Gl X "isinstance" := by rfl) (hgt : Gl X ty := by rfl) (hbi : bootBuiltins "isinstance" = some (.builtin "isinstance") := by decide +kernel) (hn : ty ≠ "__name__" := by decide) (hd : (ty == ("__debug__" : Str)) = false := by decide)
    (he : starEach [e, .Name ty p] X.env = (false, eval e X.env) :: starEach [.Name ty p] X.env := by rfl) (he2 : starEach [.Name ty p] X.env = (false, eval (.Name ty p) X.env) :: starEach [] X.env := by rfl) (hpl : (backTo pos (starEach [.Name ty p] X.env)).any (·.1) = false := by rfl) :
    Snd X (.Call (.Name "isinstance" p2) [e, .Name ty p] [] pos) (eUn (isDY cs k) m) := fun {π N0 H0 N H σ ρ Q} I h =>
  ⟨_, pe_callB ca_wp hg hm hbi (pa_cons pe_wp (pa_cons (pe_bltn (v := .ty k.nm) hgt hmt hb rfl hn hd) pa_nil he2) he) (by decide) (by decide) he hpl, ha I (T.all_mono (fun d hd => by
    intro v H2 e2 r
    unfold isDY at hd
    split at hd
    · obtain ⟨a, xs, rfl, rd, kvs, rk⟩ := r.dicR
      exact ⟨_, call_isiD, a, xs, .ty k.nm, .type k.nm, false, rfl, .ty _, rd, ⟨_, _, _, rk⟩, kit_ty (kit_dict k), hd _ _ e2 (.bl _)⟩
    · unfold isDC at hd
      split at hd
      · obtain ⟨hc, hd⟩ := cond_all hd
        obtain ⟨C, at_, ct, tx⟩ := isi_ins kn hc r
        exact ⟨_, call_isi, v, .ty k.nm, .ref C, .type k.nm, false, rfl, .ty _, tx, ct.no k, hd _ _ e2 (.bl _)⟩
      · obtain ⟨t, c, hd⟩ := isD_all hd
        exact ⟨_, call_isi, v, .ty k.nm, .type t.nm, .type k.nm, Ty5.sub t k, rfl, .ty _, ty_of r c, kit_ty (kitB_sub t k), hd _ _ e2 (.bl _)⟩) (T.all_bind.mp h))⟩
theorem s_isinstOY (cs : List Str) {c0 : Str} {C0 : Addr} {p p2 : Pos} (kn : KnownC X.K cs) (at0 : ClsAt X.K c0 C0) (ct0 : ClsTy X.K C0) (cd0 : PySem.W.kitOne X.K (.type "dict") (.ref C0) = some false) (df : ∀ c C, cs.contains c = true → (c == c0) = false → ClsAt X.K c C → PySem.W.kitOne X.K (.ref C) (.ref C0) = some false) (hm : X.mg "isinstance" = none) (hmt : X.mg c0 = some (.ref C0)) (ha : Snd X e m) (hg : Gl X "isinstance" := by rfl) (hgt : Gl X c0 := by rfl) (hbi : bootBuiltins "isinstance" = some (.builtin "isinstance") := by decide +kernel) (hd : (c0 == ("__debug__" : Str)) = false := by decide)
    (he : starEach [e, .Name c0 p] X.env = (false, eval e X.env) :: starEach [.Name c0 p] X.env := by rfl) (he2 : starEach [.Name c0 p] X.env = (false, eval (.Name c0 p) X.env) :: starEach [] X.env := by rfl) (hpl : (backTo pos (starEach [.Name c0 p] X.env)).any (·.1) = false := by rfl) :
    Snd X (.Call (.Name "isinstance" p2) [e, .Name c0 p] [] pos) (eUn (isOY cs c0) m) := fun {π N0 H0 N H σ ρ Q} I h =>
  ⟨_, pe_callB ca_wp hg hm hbi (pa_cons pe_wp (pa_cons (pe_glob (v := .ref C0) hgt hmt rfl hd) pa_nil he2) he) (by decide) (by decide) he hpl, ha I (T.all_mono (fun d hq => by
    intro v H2 e2 r
    unfold isOY at hq
    split at hq
    · obtain ⟨a, xs, rfl, rd, kvs, rk⟩ := r.dicR
      exact ⟨_, call_isiD, a, xs, .ref C0, .ref C0, false, rfl, .own _, rd, ⟨_, _, _, rk⟩, cd0, hq _ _ e2 (.bl _)⟩
    · unfold isOC at hq
      split at hq
      · rename_i c fs nn
        cases q : c == c0 with
        | true =>
          rw [q] at hq
          have ec := eq_of_beq q
          subst ec
          obtain ⟨a, dx, C2, fv, rfl, h2, hx, _⟩ := r.insE
          have e3 := at0.one h2
          subst e3
          exact ⟨_, call_isi, .ref a, .ref C2, .ref C2, .ref C2, true, rfl, .own _, .base (ct0.ty H2 a dx fv hx), by unfold PySem.W.kitOne; rw [if_pos (by simp)], hq _ _ e2 (.bl _)⟩
        | false =>
          rw [q] at hq
          obtain ⟨hc, hq⟩ := cond_all hq
          obtain ⟨C, at_, ct, tx⟩ := isi_ins kn hc r
          exact ⟨_, call_isi, v, .ref C0, .ref C, .ref C0, false, rfl, .own _, tx, df c C hc q at_, hq _ _ e2 (.bl _)⟩
      · obtain ⟨t, c, hq⟩ := optT_all (T.all_bind.mp hq)
        exact ⟨_, call_isi, v, .ref C0, .type t.nm, .ref C0, false, rfl, .own _, ty_of r c, ct0.is t, hq _ _ e2 (.bl _)⟩) (T.all_bind.mp h))⟩
/-- isinstance(x, (T1, T2)) -/
def isD2 (cs : List Str) (k1 k2 : Ty5) (d : D) : T D := match d with
  | .ins c _ => cond (cs.contains c) (.ret (.bl false)) .fail
  | d => match tyD d with
    | some t => .ret (.bl (Ty5.sub t k1 || Ty5.sub t k2))
    | none => .fail
theorem kit2 {K : PySem.W.Frag} {t : Value} {a b : String} {x y : Bool} (h1 : PySem.W.kitOne K t (.type a) = some x) (h2 : PySem.W.kitOne K t (.type b) = some y) : PySem.W.kitAny K t [.type a, .type b] = some (x || y) := by
  cases x with
  | true => exact kitAny_cons h1 (fun z => nomatch z) fun _ => rfl
  | false =>
    refine kitAny_cons h1 (fun _ => ?_) fun z => nomatch z
    cases y with
    | true => exact kitAny_cons h2 (fun z => nomatch z) fun _ => rfl
    | false => exact kitAny_cons h2 (fun _ => rfl) fun z => nomatch z
theorem s_isinst2 (cs : List Str) {k1 k2 : Ty5} {t1 t2 : Str} {p p2 p3 p4 : Pos} {kk : Nat} (kn : KnownC X.K cs) (hm : X.mg "isinstance" = none) (hm1 : X.mg t1 = none) (hm2 : X.mg t2 = none) (hb1 : bootBuiltins t1 = some (.type k1.nm)) (hb2 : bootBuiltins t2 = some (.type k2.nm)) (ha : Snd X e m) (hg : Gl X "isinstance" := by rfl) (hg1 : Gl X t1 := by rfl) (hg2 : Gl X t2 := by rfl) (hbi : bootBuiltins "isinstance" = some (.builtin "isinstance") := by decide +kernel)
    (hn1 : t1 ≠ "__name__" := by decide) (hd1 : (t1 == ("__debug__" : Str)) = false := by decide) (hn2 : t2 ≠ "__name__" := by decide) (hd2 : (t2 == ("__debug__" : Str)) = false := by decide)
    (he : starEach [e, .Tuple [.Name t1 p, .Name t2 p3] kk p4] X.env = (false, eval e X.env) :: starEach [.Tuple [.Name t1 p, .Name t2 p3] kk p4] X.env := by rfl) (he2 : starEach [.Tuple [.Name t1 p, .Name t2 p3] kk p4] X.env = (false, eval (.Tuple [.Name t1 p, .Name t2 p3] kk p4) X.env) :: starEach [] X.env := by rfl)
    (he3 : starEach [.Name t1 p, .Name t2 p3] X.env = (false, eval (.Name t1 p) X.env) :: starEach [.Name t2 p3] X.env := by rfl) (he4 : starEach [.Name t2 p3] X.env = (false, eval (.Name t2 p3) X.env) :: starEach [] X.env := by rfl) (hpl : (backTo pos (starEach [.Tuple [.Name t1 p, .Name t2 p3] kk p4] X.env)).any (·.1) = false := by rfl) :
    Snd X (.Call (.Name "isinstance" p2) [e, .Tuple [.Name t1 p, .Name t2 p3] kk p4] [] pos) (eUn (isD2 cs k1 k2) m) := fun {π N0 H0 N H σ ρ Q} I h =>
  ⟨_, pe_callB ca_wp hg hm hbi (pa_cons pe_wp (pa_cons (pe_tup (pa_cons (pe_bltn (v := .ty k1.nm) hg1 hm1 hb1 rfl hn1 hd1) (pa_cons (pe_bltn (v := .ty k2.nm) hg2 hm2 hb2 rfl hn2 hd2) pa_nil he4) he3)) pa_nil he2) he) (by decide) (by decide) he hpl, ha I (T.all_mono (fun d hd => by
    intro v H2 e2 r
    refine ⟨show 2 ≤ sizeLine by decide, fun T hT => ?_⟩
    have e3 := e2.trans (Ex.new (o := .tup [.ty k1.nm, .ty k2.nm]) e2.pot hT)
    have r3 := r.mono (Ex.new (o := .tup [.ty k1.nm, .ty k2.nm]) e2.pot hT).kp.hide
    unfold isD2 at hd
    split at hd
    · obtain ⟨hc, hd⟩ := cond_all hd
      obtain ⟨C, at_, ct, tx⟩ := isi_ins kn hc r3
      exact ⟨_, call_isiT, v, T, _, .ref C, [.type k1.nm, .type k2.nm], false, rfl, upd_same, .cons (.ty _) (.cons (.ty _) .nil), tx, kit2 (ct.no k1) (ct.no k2), hd _ _ e3 (.bl _)⟩
    · split at hd
      · rename_i t c
        exact ⟨_, call_isiT, v, T, _, .type t.nm, [.type k1.nm, .type k2.nm], _, rfl, upd_same, .cons (.ty _) (.cons (.ty _) .nil), ty_of r3 c, kit2 (kit_ty (kitB_sub t k1)) (kit_ty (kitB_sub t k2)), hd _ _ e3 (.bl _)⟩
      · exact False.elim hd) (T.all_bind.mp h))⟩
end
/-! a name ahead -/
theorem EnvOk.consUn {K : PySem.W.Frag} {P : Program} {w : World} {π : Addr} {N0 N : Addr → Bool} {H0 H : Hp} {σ : L2.St} {ρ : Rho} (I : EnvOk K P w π N0 H0 N H σ ρ) (x : Option V) : EnvOk K P w π N0 H0 N H (x :: σ) (.un :: ρ) where
  hn := I.hn
  ex := I.ex
  sub := I.sub
  own0 := I.own0
  len := by rw [List.length_cons, List.length_cons, I.len]
  val := fun i d h => match i, h with
    | 0, h => by cases h
    | i + 1, h => I.val i d h
  own := fun i y h ho => match i, h with
    | 0, h => by cases h; cases ho
    | i + 1, h => I.own i y h ho
  inj := fun i j e f l h1 h2 o1 o2 s1 s2 => match i, j, h1, h2, s1, s2 with
    | 0, _, h1, _, _, _ => by cases h1; cases o1
    | _ + 1, 0, _, h2, _, _ => by cases h2; cases o2
    | i + 1, j + 1, h1, h2, s1, s2 => congrArg Nat.succ (I.inj i j e f l h1 h2 o1 o2 s1 s2)
end Pd

/-! What a text's defs, methods, properties, classes promise, each in one word; the rules that use such a word. -/
namespace Pd
open PySem L2 PySem.Spec PyProof.Rows
section
variable (P : Program) (w : World) (K : PySem.W.Frag) (mg : Str → Option Value) (base : Heap)
/-- the def of that name -/
def Pm (x : Str) (k n : Nat) (ps : List Str) (F : List D → T D) : Prop := ∃ (a : Addr) (fd : FuncData), mg x = some (.ref a) ∧ PySem.W.keepIn K (.ref a) = true ∧ FnOk P w K mg base CX0 k a fd ps (spD K P w n F) ∧ Binds K fd ps []
/-- .. where no repr is under way -/
def PmG (x : Str) (k n : Nat) (ps : List Str) (F : List D → T D) : Prop := ∃ (a : Addr) (fd : FuncData), mg x = some (.ref a) ∧ PySem.W.keepIn K (.ref a) = true ∧ FnG P w K mg base CX0 k a fd ps (spD K P w n F) ∧ Binds K fd ps []
/-- the def, by keywords -/
def PmK (x : Str) (k n : Nat) (ps ks : List Str) (perm : List Nat) (F : List D → T D) : Prop := ∃ (a : Addr) (fd : FuncData), mg x = some (.ref a) ∧ PySem.W.keepIn K (.ref a) = true ∧ FnOk P w K mg base CX0 k a fd ps (spD K P w n F) ∧ KBind K fd ps ks perm
/-- the method -/
def PmM (c m : Str) (k n : Nat) (ps : List Str) (F : List D → T D) : Prop := ∃ (C a : Addr) (fd : FuncData), ClsAt K c C ∧ Cls K C ∧ Meth K C m a ∧ FnOk P w K mg base CX0 k a fd ps (spD K P w (n + 1) F) ∧ Binds K fd ps []
def PmMK (c m : Str) (k n : Nat) (ps ks : List Str) (perm : List Nat) (F : List D → T D) : Prop := ∃ (C a : Addr) (fd : FuncData), ClsAt K c C ∧ Cls K C ∧ Meth K C m a ∧ FnOk P w K mg base CX0 k a fd ps (spD K P w (n + 1) F) ∧ KBind1 K fd ps ks perm
/-- the property -/
def PmP (c f : Str) (k : Nat) (F : List D → T D) : Prop := ∃ (C p g : Addr) (fd : FuncData) (ps : List Str), ClsAt K c C ∧ Cls K C ∧ PropOf K C f p g ∧ FnOk P w K mg base CX0 k g fd ps (spD K P w 1 F) ∧ Binds K fd ps []
/-- the class is made by n values, dds behind them -/
def PmC (c : Str) (k n : Nat) (dds : List D) (F : List D → T (List (Str × D))) : Prop := ∃ (C a : Addr) (fd : FuncData) (ps : List Str) (dvs : List V) (dv : List Value), Mk K C a ∧ ClsAt K c C ∧ mg c = some (.ref C) ∧ FnOk P w K mg base CX0 k a fd ps (spI K P w c (n + dvs.length) F) ∧ Binds K fd ps dv ∧ Vals dvs dv ∧ ∀ π H, RvL K P w π H dvs dds
def PmCK (c : Str) (k n : Nat) (ks : List Str) (perm : List Nat) (F : List D → T (List (Str × D))) : Prop := ∃ (C a : Addr) (fd : FuncData) (ps : List Str), Mk K C a ∧ ClsAt K c C ∧ mg c = some (.ref C) ∧ FnOk P w K mg base CX0 k a fd ps (spI K P w c n F) ∧ KBind1 K fd ps ks perm
/-- the text of an instance -/
def PmT (c nm : Str) (k : Nat) (F : List D → T D) : Prop := ∃ (C a : Addr) (fd : FuncData) (ps : List Str), ClsAt K c C ∧ OwnTxt K C nm a ∧ FnOk P w K mg base CX0 k a fd ps (spD K P w 1 F) ∧ Binds K fd ps []
end
section
variable {X : Cx} {e : Expr} {es : List Expr} {pos : Pos} {m : Rho → T D} {ms : Rho → T (List D)} {k n : Nat} {ps ks : List Str} {perm : List Nat} {F : List D → T D}
theorem s_callP {x : Str} {p : Pos} (h : Pm X.prog X.w X.K X.mg X.base x k n ps F) (hr : Room k X.A) (ha : SndA X (e :: es) ms) (hg : Gl X x := by rfl) (hdb : (x == ("__debug__" : Str)) = false := by decide) (he : starEach (e :: es) X.env = (false, eval e X.env) :: starEach es X.env := by rfl) (hpl : (backTo pos (starEach es X.env)).any (·.1) = false := by rfl) :
    Snd X (.Call (.Name x p) (e :: es) [] pos) (eCall n F ms) := let ⟨_, _, hm, hk, G, B⟩ := h; s_call G hr hm hk B ha hg hdb he hpl
theorem s_callPG {x : Str} {p : Pos} (h : PmG X.prog X.w X.K X.mg X.base x k n ps F) (hr : Room k X.A) (hgd : X.A.guards = some []) (ha : SndA X (e :: es) ms) (hg : Gl X x := by rfl) (hdb : (x == ("__debug__" : Str)) = false := by decide) (he : starEach (e :: es) X.env = (false, eval e X.env) :: starEach es X.env := by rfl) (hpl : (backTo pos (starEach es X.env)).any (·.1) = false := by rfl) :
    Snd X (.Call (.Name x p) (e :: es) [] pos) (eCall n F ms) := let ⟨_, _, hm, hk, G, B⟩ := h; s_callG G hr hgd hm hk B ha hg hdb he hpl
theorem s_callPK {x : Str} {p : Pos} {kws : List Keyword} (h : PmK X.prog X.w X.K X.mg X.base x k n ps ks perm F) (hr : Room k X.A) (hp : perm.length = n) (hkn : ks.length = n) (ha : SndK X kws ms) (hg : Gl X x := by rfl) (hall : (backToKw pos (keywordEach kws X.env)).all (·.1.isSome) = true := by rfl) (hks : (backToKw pos (keywordEach kws X.env)).filterMap (·.1) = ks := by rfl)
    (hdb : (x == ("__debug__" : Str)) = false := by decide) (hpl : ((backTo pos (starEach [] X.env)).any (·.1) || (backToKw pos (keywordEach kws X.env)).any (·.1.isNone)) = false := by rfl) : Snd X (.Call (.Name x p) [] kws pos) (eCallK n perm F ms) := let ⟨_, _, hm, hk, G, B⟩ := h; s_callK G hr hm hk B hp hkn ha hg hall hks hdb hpl
theorem s_methP {c me : Str} {o : Expr} {mo : Rho → T D} {apos : Pos} {pl : Sem Bool} (h : PmM X.prog X.w X.K X.mg X.base c me k n ps F) (hr : Room k X.A) (ho : Snd X o mo) (ha : SndA X (e :: es) ms) (hst : starEach (e :: es) X.env = (false, eval e X.env) :: starEach es X.env := by rfl) (hpl : (backTo pos (starEach es X.env)).any (·.1) = false := by rfl)
    (ht : eval (.Call (.Attribute o me apos) (e :: es) [] pos) X.env = (do
      let ov ← eval o X.env
      standAt apos.atName
      let (f, first) ← holding [ov] (getMethod ov me pl)
      callWith pos f first (backTo pos (starEach (e :: es) X.env)) (backToKw pos (keywordEach [] X.env))) := by rfl) :
    Snd X (.Call (.Attribute o me apos) (e :: es) [] pos) (eMeth c me n F mo ms) := let ⟨_, _, _, at_, cl, hm, G, B⟩ := h; s_meth at_ cl hm G hr B ho ha hst hpl ht
theorem s_methP0 {c me : Str} {o : Expr} {mo : Rho → T D} {apos : Pos} {pl : Sem Bool} (h : PmM X.prog X.w X.K X.mg X.base c me k 0 ps F) (hr : Room k X.A) (ho : Snd X o mo)
    (ht : eval (.Call (.Attribute o me apos) [] [] pos) X.env = (do
      let ov ← eval o X.env
      standAt apos.atName
      let (f, first) ← holding [ov] (getMethod ov me pl)
      callWith pos f first (backTo pos (starEach [] X.env)) (backToKw pos (keywordEach [] X.env))) := by rfl) :
    Snd X (.Call (.Attribute o me apos) [] [] pos) (eMeth c me 0 F mo aNil) := let ⟨_, _, _, at_, cl, hm, G, B⟩ := h; s_meth0 at_ cl hm G hr B ho ht
theorem s_methPK {c me : Str} {o : Expr} {mo : Rho → T D} {apos : Pos} {pl : Sem Bool} {kws : List Keyword} (h : PmMK X.prog X.w X.K X.mg X.base c me k n ps ks perm F) (hr : Room k X.A) (hp : perm.length = n) (hkn : ks.length = n) (ho : Snd X o mo) (ha : SndK X kws ms) (hall : (backToKw pos (keywordEach kws X.env)).all (·.1.isSome) = true := by rfl) (hks : (backToKw pos (keywordEach kws X.env)).filterMap (·.1) = ks := by rfl)
    (hpl : ((backTo pos (starEach [] X.env)).any (·.1) || (backToKw pos (keywordEach kws X.env)).any (·.1.isNone)) = false := by rfl)
    (ht : eval (.Call (.Attribute o me apos) [] kws pos) X.env = (do
      let ov ← eval o X.env
      standAt apos.atName
      let (f, first) ← holding [ov] (getMethod ov me pl)
      callWith pos f first (backTo pos (starEach [] X.env)) (backToKw pos (keywordEach kws X.env))) := by rfl) :
    Snd X (.Call (.Attribute o me apos) [] kws pos) (eMethK c me n perm F mo ms) := let ⟨_, _, _, at_, cl, hm, G, B⟩ := h; s_methK at_ cl hm G hr B hp hkn ho ha hall hks hpl ht
theorem s_propP {c f : Str} (h : PmP X.prog X.w X.K X.mg X.base c f k F) (hr : Room (k + 1) X.A) (ho : Snd X e m) (hab : attributeBase e f X.env (eval e X.env) = eval e X.env := by rfl) : Snd X (.Attribute e f pos) (eProp c F m) :=
  let ⟨_, _, _, _, _, at_, cl, hp, G, B⟩ := h; s_prop at_ cl hp G hr B ho hab
theorem s_makeP {c : Str} {dds : List D} {F : List D → T (List (Str × D))} {p : Pos} (h : PmC X.prog X.w X.K X.mg X.base c k n dds F) (hr : Room (k + 1) X.A) (ha : SndA X (e :: es) ms) (hg : Gl X c := by rfl) (hdb : (c == ("__debug__" : Str)) = false := by decide) (he : starEach (e :: es) X.env = (false, eval e X.env) :: starEach es X.env := by rfl) (hpl : (backTo pos (starEach es X.env)).any (·.1) = false := by rfl) :
    Snd X (.Call (.Name c p) (e :: es) [] pos) (eMake c n dds F ms) := let ⟨_, _, _, _, _, _, M, at_, hm, G, B, hd, hdd⟩ := h; s_make M G hr hm at_ B hd hdd ha hg hdb he hpl
theorem s_makePK {c : Str} {F : List D → T (List (Str × D))} {p : Pos} {kws : List Keyword} (h : PmCK X.prog X.w X.K X.mg X.base c k n ks perm F) (hr : Room (k + 1) X.A) (hp : perm.length = n) (hkn : ks.length = n) (ha : SndK X kws ms) (hg : Gl X c := by rfl) (hall : (backToKw pos (keywordEach kws X.env)).all (·.1.isSome) = true := by rfl) (hks : (backToKw pos (keywordEach kws X.env)).filterMap (·.1) = ks := by rfl)
    (hdb : (c == ("__debug__" : Str)) = false := by decide) (hpl : ((backTo pos (starEach [] X.env)).any (·.1) || (backToKw pos (keywordEach kws X.env)).any (·.1.isNone)) = false := by rfl) : Snd X (.Call (.Name c p) [] kws pos) (eMakeK c n perm F ms) := let ⟨_, _, _, _, M, at_, hm, G, B⟩ := h; s_makeK M G hr hm at_ B hp hkn ha hg hall hks hdb hpl
theorem cs_strP {c : Str} {g : List D → T D} (h : PmT X.prog X.w X.K X.mg X.base c "__str__" k F) (hr : Room (k + 2) X.A) (h0 : CaSnd X (.type "str") g) : CaSnd X (.type "str") (txtC c F g) := let ⟨_, _, _, _, at_, O, G, B⟩ := h; txt_of at_ h0 (call_strC O G hr B)
theorem cs_reprP {c : Str} {g : List D → T D} (h : PmT X.prog X.w X.K X.mg X.base c "__repr__" k F) (hr : Room (k + 1) X.A) (h0 : CaSnd X (.builtin "repr") g) : CaSnd X (.builtin "repr") (txtC c F g) := let ⟨_, _, _, _, at_, O, G, B⟩ := h; txt_of at_ h0 (call_reprC O G hr B)
end
section
variable (P : Program) (w : World) (K : PySem.W.Frag) (mg : Str → Option Value) (base : Heap)
/-- the operator of the class, the instance on the left -/
def PmO (c : Str) (op : Operator) (k : Nat) (F : List D → T D) : Prop := ∃ (C a : Addr) (fd : FuncData) (ps : List Str), ClsAt K c C ∧ OwnOp K C op a ∧ FnOk P w K mg base CX0 k a fd ps (spD K P w 2 F) ∧ Binds K fd ps []
/-- .. on the right, an int on the left -/
def PmB (c : Str) (op : Operator) (k : Nat) (F : List D → T D) : Prop := ∃ (C a : Addr) (fd : FuncData) (ps : List Str), ClsAt K c C ∧ BackOp K C op a ∧ FnOk P w K mg base CX0 k a fd ps (spD K P w 2 F) ∧ Binds K fd ps []
def PmE (c : Str) (op : CmpOp) (k : Nat) (F : List D → T D) : Prop := ∃ (C a : Addr) (fd : FuncData) (ps : List Str), ClsAt K c C ∧ CmpOwn K C op a ∧ FnOk P w K mg base CX0 k a fd ps (spD K P w 2 F) ∧ Binds K fd ps []
def PmN (c : Str) (k : Nat) (F : List D → T D) : Prop := ∃ (C a : Addr) (fd : FuncData) (ps : List Str), ClsAt K c C ∧ PySem.W.findIn K (.ref C) "__neg__" = some (some (.ref a)) ∧ PySem.W.isFn K (.ref a) = true ∧ FnOk P w K mg base CX0 k a fd ps (spD K P w 1 F) ∧ Binds K fd ps []
end
section
variable {X : Cx} {e : Expr} {pos : Pos} {m : Rho → T D} {j k : Nat} {F R : List D → T D} {g : D → D → T D} {c : Str}
theorem os_anyP {op : Operator} (h0 : OpSnd X (binaryOp op) g) (h : PmO X.prog X.w X.K X.mg X.base c op k F) (hr : Room k X.A) (hb : PmB X.prog X.w X.K X.mg X.base c op j R) (dc : Declines op) (hr2 : Room j X.A) : OpSnd X (binaryOp op) (opAny c g F R) := by
  obtain ⟨C, a, fd, ps, at_, O, G, B⟩ := h
  obtain ⟨C2, b, rd, qs, at2, O2, GR, BR⟩ := hb
  have e := at_.one at2
  subst e
  exact os_any h0 at_ O G hr B O2 dc GR hr2 BR
theorem os_ownP {op : Operator} (h : PmO X.prog X.w X.K X.mg X.base c op k F) (hr : Room k X.A) : OpSnd X (binaryOp op) (opOwn c F) := let ⟨_, _, _, _, at_, O, G, B⟩ := h; os_own at_ O G hr B
theorem os_cmpP {op : CmpOp} (h0 : OpSnd X (compareOp op) g) (hop : op ≠ .Is ∧ op ≠ .IsNot ∧ op ≠ .In ∧ op ≠ .NotIn) (h : PmE X.prog X.w X.K X.mg X.base c op k F) (hr : Room k X.A) : OpSnd X (compareOp op) (cmpAny c g F) := let ⟨_, _, _, _, at_, O, G, B⟩ := h; os_cmpAny h0 hop at_ O G hr B
theorem s_negP (h : PmN X.prog X.w X.K X.mg X.base c k F) (hr : Room k X.A) (ha : Snd X e m) : Snd X (.UnaryOp .USub e pos) (eUn (uNegC c F) m) := let ⟨_, _, _, _, at_, hs, hf, G, B⟩ := h; s_negC at_ hs hf G hr B ha
end
section
variable (P : Program) (w : World) (K : PySem.W.Frag) (mg : Str → Option Value) (base : Heap)
/-- the class's own method, called on the class -/
def PmL (c m : Str) (k n : Nat) (F : List D → T D) : Prop := ∃ (C p g : Addr) (mc : Value), mg c = some (.ref C) ∧ ClX.CRead K C mc ∧ ClX.CMet K C mc m p g ∧ FnR P w K mg base CX0 k g (spC K P w C n F)
def PmLK (c m : Str) (k n : Nat) (ks : List Str) (perm : List Nat) (F : List D → T D) : Prop := ∃ (C p g : Addr) (mc : Value) (fd : FuncData) (ps : List Str), mg c = some (.ref C) ∧ ClX.CRead K C mc ∧ ClX.CMet K C mc m p g ∧ FnOk P w K mg base CX0 k g fd ps (spC K P w C n F) ∧ KBind1 K fd ps ks perm
end
section
variable {X : Cx} {e : Expr} {es : List Expr} {pos : Pos} {ms : Rho → T (List D)} {k n : Nat} {ks : List Str} {perm : List Nat} {F : List D → T D}
theorem s_clsP {c m : Str} {np apos : Pos} {pl : Sem Bool} (h : PmL X.prog X.w X.K X.mg X.base c m k n F) (hr : Room k X.A) (ha : SndA X (e :: es) ms) (hg : Gl X c := by rfl) (hdb : (c == ("__debug__" : Str)) = false := by decide) (hst : starEach (e :: es) X.env = (false, eval e X.env) :: starEach es X.env := by rfl) (hpl : (backTo pos (starEach es X.env)).any (·.1) = false := by rfl)
    (ht : eval (.Call (.Attribute (.Name c np) m apos) (e :: es) [] pos) X.env = (do
      let ov ← eval (.Name c np) X.env
      standAt apos.atName
      let (f, first) ← holding [ov] (getMethod ov m pl)
      callWith pos f first (backTo pos (starEach (e :: es) X.env)) (backToKw pos (keywordEach [] X.env))) := by rfl) :
    Snd X (.Call (.Attribute (.Name c np) m apos) (e :: es) [] pos) (eCall n F ms) := let ⟨_, _, _, _, at_, r, cm, G⟩ := h; s_cmeth at_ r cm G hr ha hg hdb hst hpl ht
theorem s_clsPK {c m : Str} {np apos : Pos} {pl : Sem Bool} {kws : List Keyword} (h : PmLK X.prog X.w X.K X.mg X.base c m k n ks perm F) (hr : Room k X.A) (hp : perm.length = n) (hkn : ks.length = n)
    (ha : SndK X kws ms) (hg : Gl X c := by rfl) (hdb : (c == ("__debug__" : Str)) = false := by decide) (hall : (backToKw pos (keywordEach kws X.env)).all (·.1.isSome) = true := by rfl) (hks : (backToKw pos (keywordEach kws X.env)).filterMap (·.1) = ks := by rfl)
    (hpl : ((backTo pos (starEach [] X.env)).any (·.1) || (backToKw pos (keywordEach kws X.env)).any (·.1.isNone)) = false := by rfl)
    (ht : eval (.Call (.Attribute (.Name c np) m apos) [] kws pos) X.env = (do
      let ov ← eval (.Name c np) X.env
      standAt apos.atName
      let (f, first) ← holding [ov] (getMethod ov m pl)
      callWith pos f first (backTo pos (starEach [] X.env)) (backToKw pos (keywordEach kws X.env))) := by rfl) :
    Snd X (.Call (.Attribute (.Name c np) m apos) [] kws pos) (eCallK n perm F ms) := let ⟨_, _, _, _, _, _, at_, r, cm, G, B⟩ := h; s_cmethK at_ r cm G hr B hp hkn ha hg hdb hall hks hpl ht
/-- f(), where no repr is under way -/
theorem s_callPG0 {x : Str} {p : Pos} (h : PmG X.prog X.w X.K X.mg X.base x k 0 [] F) (hr : Room k X.A) (hgd : X.A.guards = some []) (hg : Gl X x := by rfl) (hdb : (x == ("__debug__" : Str)) = false := by decide) : Snd X (.Call (.Name x p) [] [] pos) (eCall 0 F aNil) := fun {π N0 H0 N H σ ρ Q} I q => by
  obtain ⟨f, fd, hm, hk, G, B⟩ := h
  refine ⟨fun σ H Q => spD X.K X.prog X.w 0 F [] H Q E0, ⟨fun pins s σ H Q J q => ?_⟩, π, N, [], I.hn, .nil, rfl, q⟩
  refine wpAny_Call_Name_kw (ld_glob J hg hm ?_ hdb)
  refine PySem.W.callWith_K0 J.kIn hk ?_
  have b0 := B s [] J.kIn rfl
  show wpAny _ _ (call (.ref f) []) _ _ _
  refine wpAny_call (codeAny_mono (G.run X.A X.stack s H ⟨[], []⟩ [] [] Q E0 hr hgd J.env0 b0 .nil q) fun r s' hq => ?_)
  cases r with
  | error e => exact pass0 pins σ H s e s' J hq
  | ok fl =>
    cases fl with
    | ret u => exact J.after hq
    | next => exact False.elim hq
    | brk => exact False.elim hq
    | cont => exact False.elim hq
end
/-- all names unknown -/
theorem env_un {K : PySem.W.Frag} {P : Program} {w : World} {π : Addr} {N : Addr → Bool} {H : Hp} {σ : L2.St} {n : Nat} (hn : HN π N H) (hl : σ.length = n) : EnvOk K P w π N H N H σ (List.replicate n .un) := by
  have un : ∀ (i : Nat) (e : Ent), (List.replicate n Ent.un)[i]? = some e → e = .un := fun i e h => by
    rw [List.getElem?_replicate] at h
    split at h
    · cases h; rfl
    · cases h
  refine ⟨hn, .refl, fun _ h => h, fun _ h => .inl h, by rw [hl, List.length_replicate], fun i d h => ?_, fun i x h xo => ?_, fun i j e f l h1 h2 o1 o2 => ?_⟩
  · cases un i _ h
  · cases un i _ h; cases xo
  · cases un i _ h1; cases o1
end Pd

/-! repr of lists and tuples that hold instances: the instances' own texts are asked on the way. -/
namespace Pd
open PySem L2 PySem.Spec PyProof.Rows
/-- the state goes on, the tracked heap as data's -/
def Goes (X : Cx) (σ : L2.St) (π : Addr) (H0 : Hp) (pins : List (Addr × Obj)) (s : Shared) : Prop := ∃ H, Inv X pins σ H s ∧ Ex π H0 H
/-- the text of v, asked under way; as: the places that stand in it -/
def RpG (X : Cx) (σ : L2.St) (π : Addr) (H0 : Hp) (n : Nat) (as : List Addr) (v : Value) (t : Str) : Prop :=
  ∀ (b0 : Nat) (A : Around) (g : List Code) (pins : List (Addr × Obj)) (s : Shared) (E : Value → Shared → Prop) (Q : Str → Shared → Prop), b0 + t.length ≤ sizeLine → A.guards = some g → (∀ b ∈ as, Clear g b) → Room n A → A.frames = some X.stack →
    Goes X σ π H0 pins s → (∀ s', Goes X σ π H0 pins s' → Q t s') → wpAny (model X.prog X.w) A (pyReprUnder b0 v) Q E s
theorem RpG.mono {X : Cx} {σ : L2.St} {π : Addr} {H0 : Hp} {m n : Nat} {as : List Addr} {v : Value} {t : Str} (h : RpG X σ π H0 m as v t) (l : m ≤ n) : RpG X σ π H0 n as v t :=
  fun b0 A g pins s E Q hb hg hc hr => h b0 A g pins s E Q hb hg hc (hr.mono l)
theorem RpG.more {X : Cx} {σ : L2.St} {π : Addr} {H0 : Hp} {n : Nat} {as bs : List Addr} {v : Value} {t : Str} (h : RpG X σ π H0 n as v t) (l : ∀ b ∈ as, b ∈ bs) : RpG X σ π H0 n bs v t :=
  fun b0 A g pins s E Q hb hg hc => h b0 A g pins s E Q hb hg fun b z => hc b (l b z)
theorem room_under {n : Nat} {A : Around} {c : Code} (r : Room (n + 1) A) (hw : c.weight ≤ 3) (hu : c.cUnits ≤ 16) : Room n (A.under c) :=
  ⟨r.hd, by have := r.dp; show A.depth + c.weight + 3 * n + 5 < _; omega, by have := r.un; show A.units + c.cUnits + 16 * n + 200 < _; omega⟩
section
variable {X : Cx} {σ : L2.St} {π : Addr} {H0 : Hp} {n : Nat}
/-- what is no object -/
theorem RpG.leaf {v : Value} {t : Str} (h : ReprIs X.prog X.w v t) : RpG X σ π H0 n [] v t := fun b0 A g pins s E Q hb hg hc hr hf ⟨H, I, e⟩ hQ =>
  h b0 hb A E s Q fun tk => hQ _ ⟨H, I.tok tk, e⟩
/-- an instance with a repr of its own -/
theorem RpG.own {k : Nat} {C f a dx : Addr} {fd : FuncData} {ps : List Str} {F : List D → T D} {fv : List (Str × V)} {N : Addr → Bool} {d : D} {t : Str} (O : OwnTxt X.K C "__repr__" f) (G : FnOk X.prog X.w X.K X.mg X.base CX0 k f fd ps (spD X.K X.prog X.w 1 F)) (hb : Binds X.K fd ps [])
    (hn : HN π N H0) (ha : H0 a = some (.ins C dx fv)) (hp : a ≠ π) (r : Rv X.K X.prog X.w π (Hide N H0) (.ref a) d) (hF : F [d] = .ret (.str t)) : RpG X σ π H0 k [] (.ref a) t := fun b0 A g pins s E Q hz hg hc hr hf ⟨H, I, e⟩ hQ => by
  have ha' := e.kp a _ hp ha
  obtain ⟨mA, M, _, _, _, _⟩ := ins_get I.hok ha'
  obtain ⟨od, J, _⟩ := M.look
  have hA := I.kIn
  refine wpAny_pyReprUnder_ref (by omega) ?_
  unfold pyReprObjUnder pyReprObjBy
  refine wpAny_bind (wpAny_cRoomFor (by have := hr.un; omega) ?_)
  refine wpAny_bind (wpAny_bind (J.type.here ((PySem.W.looks_findIn hA O.at_).here ?_)))
  show wpAny _ _ (if (some (Value.ref f)).isNone = true then _ else _) _ _ _
  rw [if_neg (by simp)]
  have r1 : Rv X.K X.prog X.w π (Hide N H) (.ref a) d := r.mono e.kp.hide
  have call1 : wpAny (model X.prog X.w) A (call (.ref f) [.ref a]) (fun v s' => (∃ u, v = .str t u) ∧ Goes X σ π H0 pins s') E s := by
    refine wpAny_call (codeAny_mono (G.run A X.stack s H ⟨[.ref a], []⟩ [.ref a] [.ref a] (fun v H2 => v = .str t ∧ Ex π H0 H2) E0 hr ?_ (hb s [.ref a] hA (G.len _ H (fun _ _ => True) E0 ⟨π, N, [d], hn.ext e, .cons r1 .nil, rfl, by rw [hF]; exact fun _ _ _ _ => trivial⟩)) (.cons rfl .nil)
      ⟨π, N, [d], hn.ext e, .cons r1 .nil, rfl, by rw [hF]; exact fun v H' e2 rv => ⟨by cases rv; rfl, e.trans e2⟩⟩) fun r s' hq => ?_)
    · exact { I.env0 with frames := hf }
    · cases r with
      | error er => exact hq.elim
      | ok fl =>
        cases fl with
        | ret u =>
          obtain ⟨v, H', I3, rv, ev, q⟩ := I.after hq
          subst ev
          obtain ⟨tk, rfl⟩ := rv
          exact ⟨⟨tk, rfl⟩, H', I3, q⟩
        | next => exact False.elim hq
        | brk => exact False.elim hq
        | cont => exact False.elim hq
  have fin : wpAny (model X.prog X.w) A (call (.ref f) [.ref a] >>= fun v => pure (some v)) (fun r s' => ∃ u, r = some (Value.str t u) ∧ Goes X σ π H0 pins s') E s :=
    wpAny_bind (wpAny_mono call1 (fun v s' ⟨⟨u, hv⟩, q⟩ => wpAny_pure ⟨u, by rw [hv], q⟩) fun _ _ z => z)
  have by1 : wpAny (model X.prog X.w) A (callSpecialIfBoundBy? (fun g first => match reprUnder? g, first with | some twin, [self] => call twin [self, rawInt b0] | _, _ => call g (first ++ [])) (.ref a) (Str.ofString "__repr__"))
      (fun r s' => ∃ u, r = some (Value.str t u) ∧ Goes X σ π H0 pins s') E s := by
    simp only [callSpecialIfBoundBy?, bindSpecialIfBound?]
    refine wpAny_holding (wpAny_bind (wpAny_bind (wpAny_bind (J.type.here ((PySem.W.looks_findIn hA O.at_).here ?_)))))
    refine wpAny_bind (wpAny_askSetting (wpAny_ite ?_))
    split
    · exact wpAny_bind ((PySem.W.bind_fn hA _ (beq_iff_eq.mp O.fn)).here (wpAny_pure (by exact fin)))
    · exact wpAny_tryCatch (wpAny_bind ((PySem.W.bind_fn hA _ (beq_iff_eq.mp O.fn)).here (wpAny_pure (by exact fin))))
  refine wpAny_bind (wpAny_mono by1 (fun r s' ⟨u, hv, q⟩ => ?_) fun _ _ z => z)
  subst hv
  exact wpAny_bind (wpAny_isInstance (T := "str") (b := true) rfl isSubtype_str_str (wpAny_pure ⟨t, u, rfl, hQ _ q⟩))
end
end Pd

/-! repr of lists and tuples that hold instances: the loops. -/
namespace Pd
open PySem L2 PySem.Spec PyProof.Rows
open PySem.Builtin PySem.Builtin.List
/-- the list of texts under way -/
def partsObj (acc : Array Value) (c : Nat) : Obj := { cls := .type "list", dict := none, data := .seq acc c, slots := #[] }
theorem len_parts {acc : Array Value} {done : List (Str × Tok)} {ts : List Str} {i : Nat} (ha : acc.toList = strValues done) (hd : done.map (·.1) = ts.take i) : acc.size ≤ ts.length := by
  have e1 : acc.size = done.length := by rw [← Array.length_toList, ha]; simp [strValues]
  have e2 : done.length = (ts.take i).length := by rw [← hd, List.length_map]
  rw [e1, e2, List.length_take]
  omega
theorem le_piled {ts : List Str} {t : Str} (h : t ∈ ts) : t.length + 2 ≤ piled ts := by
  induction ts with
  | nil => cases h
  | cons x xs ih =>
    rw [piled_cons]
    rcases List.mem_cons.mp h with e | e
    · subst e; omega
    · have := ih e; omega
theorem w_list (args : Args) : (Code.builtin "list.__repr__.loop" args).weight ≤ 3 := by
  have c : (Code.builtin "list.__repr__.loop" args).isCreation = false := rfl
  have d : (Code.builtin "list.__repr__.loop" args).isCaller = false := rfl
  have f : (Code.builtin "list.__repr__.loop" args).frames = 0 := by first | rfl | simp [Code.frames, Code.isFrame]
  unfold Code.weight
  rw [c, d, f, isGuard_list_loop, if_neg (by decide), if_pos rfl, if_neg (by decide)]
  decide
theorem u_list (args : Args) : (Code.builtin "list.__repr__.loop" args).cUnits ≤ 16 := by
  have f : (Code.builtin "list.__repr__.loop" args).frames = 0 := by first | rfl | simp [Code.frames, Code.isFrame]
  show 1 + 3 * _ ≤ 16
  rw [f]
  decide
section
variable {X : Cx} {σ : L2.St} {π : Addr} {H0 : Hp} {n : Nat} {pins : List (Addr × Obj)}
/-- the parts get one more -/
theorem Goes.part {P : Addr} {o1 : Obj} {s : Shared} {f : Array Value → Array Value} {xs : Array Value} {c : Nat} (h : Goes X σ π H0 ((P, o1) :: pins) s) (ho : o1.data = .seq xs c) (hP1 : X.s_0.heap.objs.size ≤ P) (hP2 : ∀ x c, X.env.cells.lookup x = some c → c ≠ P) (hP3 : ∀ p ∈ X.pn ++ pins, p.1 ≠ P) (t' : Nat) :
    ∃ o2, (s.heap.update P (Obj.mapSeq f)).get? P = some o2 ∧ o2 = Obj.mapSeq f o1 ∧ Goes X σ π H0 ((P, o2) :: pins) { s with heap := s.heap.update P (Obj.mapSeq f), toks := t' } := by
  obtain ⟨H, I, e⟩ := h
  have q := I.pin (P, o1) (List.mem_append_right _ List.mem_cons_self)
  obtain ⟨q1, q2, q3, q4, q5⟩ := q
  have I1 := (ClX.unpin I).turned (t' := t') (it := P) (h' := s.heap.update P (Obj.mapSeq f)) (fun b o hb hs => (Heap.get?_update_other _ _ (fun z => hb z.symm)).trans hs) q2 q3 (.inr hP1) hP2 hP3
  have nf : (Obj.mapSeq f o1).isFreed = false := by
    unfold Obj.mapSeq
    cases o1
    cases ho
    rfl
  have e2 : (s.heap.update P (Obj.mapSeq f)).get? P = some (Obj.mapSeq f o1) := Heap.get?_update_self _ q1 nf
  have d2 : ∃ m, (Obj.mapSeq f o1).data = .seq (f xs) m := by
    cases o1
    cases ho
    exact ⟨_, rfl⟩
  refine ⟨_, e2, rfl, H, I1.pins_of fun p hp => ?_, e⟩
  rcases List.mem_cons.mp hp with z | z
  · subst z
    refine ⟨e2, q2, q3, q4, fun v hv => ?_⟩
    obtain ⟨m, d⟩ := d2
    rw [show (P, Obj.mapSeq f o1).2 = Obj.mapSeq f o1 from rfl, d] at hv
    cases hv
  · exact I1.pin p (List.mem_append_right _ z)
/-- the loop over a list's items -/
theorem list_loopG {a P : Addr} {xs : List V} {ts : List Str} {as : List Addr} {b0 : Nat} {A : Around} {g : List Code} {R : Result → Shared → Prop} (ha : H0 a = some (.lst xs)) (hap : a ≠ π) (hna : a ∉ as) (hg : A.guards = some g) (hcl : ∀ b ∈ as, Clear g b) (hr : Room (n + 1) A) (hf : A.frames = some X.stack)
    (hlen : ts.length = xs.length) (hT : ∀ (i : Nat) (x : V), xs[i]? = some x → ∃ t, ts[i]? = some t ∧ ∀ v, RelV x v → RpG X σ π H0 n as v t) (hsz : b0 + (listText ts).length ≤ sizeLine) (hP1 : X.s_0.heap.objs.size ≤ P) (hP2 : ∀ x c, X.env.cells.lookup x = some c → c ≠ P) (hP3 : ∀ p ∈ X.pn ++ pins, p.1 ≠ P)
    (hR : ∀ s' u, Goes X σ π H0 pins s' → R (.ok (.ret (.str (listText ts) u))) s') :
    ∀ (k i : Nat) (s : Shared) (acc : Array Value) (c : Nat) (done : List (Str × Tok)), xs.length - i = k → i ≤ xs.length → Goes X σ π H0 ((P, partsObj acc c) :: pins) s → acc.toList = strValues done → done.map (·.1) = ts.take i →
      codeAny (model X.prog X.w) A (.builtin "list.__repr__.loop" ⟨[.ref a, rawInt i, .ref P, rawInt ((b0 + piled (ts.take i) : Nat) : Int)], []⟩) R s := by
  have hp := piled_le_listText ts
  have hall : ∀ t ∈ ts, t.length + 2 ≤ piled ts := fun t ht => by
    exact le_piled ht
  intro k
  induction k with
  | zero =>
    intro i s acc c done hk hi ⟨H, I, e⟩ hacc hdone
    have hin : i = xs.length := by omega
    obtain ⟨its, rv, ⟨o, m, ho, _, _, hd⟩, hl⟩ := I.list (SqL.of (e.kp a _ hap ha))
    have hP := ClX.pin_at I
    refine codeAny_builtin F.entry_list_repr_loop ?_
    show wpAny _ _ («list.__repr__.loop» ⟨[.ref a, .int i 0, .ref P, .int ((b0 + piled (ts.take i) : Nat) : Int) 0], []⟩) _ _ s
    rw [repr_loop_tree]
    refine wpAny_bind (wpAny_listItems ho hd ?_)
    have h0 : its.toArray[(i : Int).toNat]? = none := by
      rw [Int.toNat_natCast, Array.getElem?_eq_none]
      rw [List.size_toArray, ← rv.length]
      omega
    simp only [h0]
    unfold reprEnd
    refine wpAny_bind (wpAny_listItems hP rfl ?_)
    rw [hacc, repr_fold, hdone, hin, ← hlen, List.take_length]
    refine wpAny_bind (wpAny_pure ?_)
    exact wpAny_bind (wpAny_mkStr (wpAny_pure (hR _ _ ⟨H, (ClX.unpin I).tok _, e⟩)) (by show (listText ts).length ≤ sizeLine; omega))
  | succ k ih =>
    intro i s acc c done hk hi G hacc hdone
    obtain ⟨H, I, e⟩ := id G
    have hlt : i < xs.length := by omega
    obtain ⟨t, ht, hrep⟩ := hT i xs[i] (List.getElem?_eq_getElem hlt)
    obtain ⟨its, rv, ⟨o, m, ho, _, _, hd⟩, hl⟩ := I.list (SqL.of (e.kp a _ hap ha))
    have hits : i < its.length := by rw [← rv.length]; exact hlt
    obtain ⟨x1, hx1, rx⟩ := rv.get (List.getElem?_eq_getElem hlt)
    obtain rfl : its[i] = x1 := Option.some.inj ((List.getElem?_eq_getElem hits).symm.trans hx1)
    have hp1 := piled_take_succ ht
    have hp2 := piled_take_le ts (i + 1)
    have ht2 := hall t (List.mem_of_getElem? ht)
    have hsa := len_parts hacc hdone
    refine codeAny_builtin F.entry_list_repr_loop ?_
    show wpAny _ _ («list.__repr__.loop» ⟨[.ref a, .int i 0, .ref P, .int ((b0 + piled (ts.take i) : Nat) : Int) 0], []⟩) _ _ s
    rw [repr_loop_tree]
    refine wpAny_bind (wpAny_listItems ho hd ?_)
    have h0 : its.toArray[(i : Int).toNat]? = some its[i] := by
      rw [Int.toNat_natCast, List.getElem?_toArray, List.getElem?_eq_getElem hits]
    simp only [h0]
    rw [Int.toNat_natCast]
    have gd := guards_under_guard (A := A) (isGuard_list_loop ⟨[.ref a, .int i 0, .ref P, .int ((b0 + piled (ts.take i) : Nat) : Int) 0], []⟩) hg
    refine wpAny_bind (wpAny_holding (hrep _ rx (b0 + piled (ts.take i) + 1) _ _ ((P, partsObj acc c) :: pins) s _ _ (by omega) gd (fun b hb => (hcl b hb).cons (a := a) fun z => hna (z ▸ hb)) (room_under hr (w_list _) (u_list _)) hf G fun s' G' => ?_))
    refine wpAny_bind (wpAny_mkStr ?_ (by omega))
    refine wpAny_bind ?_
    obtain ⟨H', I', e'⟩ := id G'
    refine wpAny_updateSeq (ClX.pin_at I') rfl (wpAny_pure ⟨F.quiet_list_repr_loop _, ?_⟩) (by omega)
    obtain ⟨o2, g2, eo, G2⟩ := G'.part (f := (·.push (.str t s'.toks))) rfl hP1 hP2 hP3 (s'.toks + 1)
    subst eo
    have e1 : ((i : Int) + 1) = ((i + 1 : Nat) : Int) := by omega
    have e2 : b0 + piled (ts.take i) + (t.length + 2) = b0 + piled (ts.take (i + 1)) := by omega
    rw [e1, e2]
    exact ih (i + 1) _ (acc.push (.str t s'.toks)) _ (done ++ [(t, s'.toks)]) (by omega) hlt G2 (by simp [hacc, strValues]) (by simp [List.take_add_one, ht, hdone])
end
end Pd

/-! repr of lists and tuples that hold instances: the wholes. -/
namespace Pd
open PySem L2 PySem.Spec PyProof.Rows
open PySem.Builtin PySem.Builtin.List
/-- the texts of the items -/
def Txs (X : Cx) (σ : L2.St) (π : Addr) (H0 : Hp) (n : Nat) (as : List Addr) (xs : List V) (ts : List Str) : Prop :=
  ts.length = xs.length ∧ ∀ (i : Nat) (x : V), xs[i]? = some x → ∃ t, ts[i]? = some t ∧ ∀ v, RelV x v → RpG X σ π H0 n as v t
section
variable {X : Cx} {σ : L2.St} {π : Addr} {H0 : Hp} {n : Nat} {pins : List (Addr × Obj)}
/-- how a text's run ends -/
abbrev FinR (X : Cx) (A : Around) (R : Result → Shared → Prop) : Fin → Shared → Prop := fun fin s' => match fin with
  | .done f => R (.ok f) s'
  | .again c' => c'.quiet = true ∧ codeAny (model X.prog X.w) A c' R s'
theorem list_atG {a : Addr} {xs : List V} {ts : List Str} {as : List Addr} {b0 : Nat} {A : Around} {g : List Code} {R : Result → Shared → Prop} {s : Shared} (ha : H0 a = some (.lst xs)) (hap : a ≠ π) (hna : a ∉ as) (hx : xs ≠ []) (hg : A.guards = some g) (hcl : ∀ b ∈ a :: as, Clear g b) (hr : Room (n + 1) A) (hf : A.frames = some X.stack)
    (hT : Txs X σ π H0 n as xs ts) (hsz : b0 + (listText ts).length ≤ sizeLine) (G : Goes X σ π H0 pins s) (hR : ∀ s' u, Goes X σ π H0 pins s' → R (.ok (.ret (.str (listText ts) u))) s') :
    wpAny (model X.prog X.w) A.in1 (Builtin.listReprAt b0 ⟨[.ref a], []⟩) (FinR X A R) (fun e s' => R (.error e) s') s := by
  obtain ⟨H, I, e⟩ := G
  obtain ⟨its, rv, ⟨o, m, ho, _, _, hd⟩, hl⟩ := I.list (SqL.of (e.kp a _ hap ha))
  cases its with
  | nil =>
    cases rv
    exact absurd rfl hx
  | cons y ys =>
    refine wpAny_list_repr_head (A := A.in1) hg (fun v rest kw hm => listSameRef_of_ne (hcl a (.head _) _ _ _ _ hm)) ho hd ?_
    refine wpAny_bind (m := newList []) (wpAny_newObj_type ?_)
    refine wpAny_pure ⟨F.quiet_list_repr_loop _, ?_⟩
    have IP : Inv X ((s.heap.objs.size, partsObj #[] 0) :: pins) σ H { s with heap := s.heap.push (partsObj #[] 0) } := ClX.pin_new (t' := s.toks) I (fun b u z => Heap.get?_push_of_some _ z) (Nat.le_refl _) (Heap.get?_push_size _ rfl) (fun v z => by cases z)
    refine list_loopG (P := s.heap.objs.size) (pins := pins) ha hap hna hg (fun b hb => hcl b (.tail _ hb)) hr hf hT.1 hT.2 hsz I.sz (fun x c z => ?_) (fun p hp z => ?_) hR _ 0 _ #[] _ [] rfl (Nat.zero_le _) ⟨H, IP, e⟩ rfl (by simp)
    · obtain ⟨v, o, q, _⟩ := I.cell x c z
      exact Nat.ne_of_lt (Heap.lt_size q)
    · have q := (I.pin p hp).1
      exact Nat.ne_of_lt (Heap.lt_size q) z
theorem RpG.list {a : Addr} {xs : List V} {ts : List Str} {as : List Addr} (ha : H0 a = some (.lst xs)) (hap : a ≠ π) (hna : a ∉ as) (hT : Txs X σ π H0 n as xs ts) : RpG X σ π H0 (n + 1) (a :: as) (.ref a) (listText ts) := fun b0 A g pins s E Q hb hg hcl hr hf G hQ => by
  obtain ⟨H, I, e⟩ := _root_.id G
  obtain ⟨its, rv, ⟨o, m, ho, hc, _, hd⟩, hl⟩ := I.list (SqL.of (e.kp a _ hap ha))
  have hu := hr.un
  refine wpAny_pyReprUnder_ref (by omega) ?_
  by_cases hx : xs = []
  · subst hx
    cases rv
    have ht : ts = [] := List.length_eq_zero_iff.mp hT.1
    subst ht
    exact wpAny_pyReprObjUnder_list_empty ⟨o, ho, hc⟩ (by omega) ho hd ⟨_, _, rfl, hQ _ ⟨H, I.tok _, e⟩⟩
  · refine wpAny_pyReprObjUnder_twin (twin := "list.__repr__.under") ⟨o, ho, hc⟩ F.slot_list_repr.toG rfl (by omega) ?_
    exact call_twin_plain F.plain_list_repr_under F.entry_list_repr_under F.check_list_repr_under ⟨o, ho, hc⟩ F.slot_list_repr.toG (F.args_list_repr_1 _)
      (list_atG (pins := pins) (R := callEnd (fun v s' => (∃ x u, v = .str x u) ∧ ∃ x u, v = .str x u ∧ Q x s') E) ha hap hna hx hg hcl hr hf hT hb G fun s' u G' => ⟨⟨_, _, rfl⟩, _, _, rfl, hQ _ G'⟩)
theorem call_listG {a : Addr} {xs : List V} {ts : List Str} {as : List Addr} {A : Around} {E : Value → Shared → Prop} {Q : Value → Shared → Prop} {s : Shared} (ha : H0 a = some (.lst xs)) (hap : a ≠ π) (hna : a ∉ as) (hT : Txs X σ π H0 n as xs ts) (hg : A.guards = some []) (hr : Room (n + 2) A) (hf : A.frames = some X.stack)
    (hsz : (listText ts).length ≤ sizeLine) (G : Goes X σ π H0 pins s) (hQ : ∀ s' u, Goes X σ π H0 pins s' → Q (.str (listText ts) u) s') : wpAny (model X.prog X.w) A (call (.builtin "repr") [.ref a]) Q E s := by
  obtain ⟨H, I, e⟩ := _root_.id G
  obtain ⟨its, rv, ⟨o, m, ho, hc, _, hd⟩, hl⟩ := I.list (SqL.of (e.kp a _ hap ha))
  have hu := hr.un
  refine call_repr_slot (by omega) ⟨o, ho, hc⟩ F.slot_list_repr.toG ?_
  by_cases hx : xs = []
  · subst hx
    cases rv
    have ht : ts = [] := List.length_eq_zero_iff.mp hT.1
    subst ht
    exact call_list_repr_empty ⟨o, ho, hc⟩ ho hd ⟨_, _, rfl, hQ _ _ ⟨H, I.tok _, e⟩⟩
  · exact wpAny_call (codeAny_call_builtin F.slot_list_repr.plain F.entry_list_repr (F.slot_list_repr.check _ _ _ _ _ _ _ _ ⟨o, ho, hc⟩ (F.args_list_repr_1 _)
      (list_atG (A := A.in1) (pins := pins) (b0 := 0) (R := callEnd (fun v s' => ∃ x u, v = .str x u ∧ Q v s') E) ha hap hna hx hg (fun b _ => Clear.nil b) hr.in1 hf hT (by omega) G fun s' u G' => ⟨_, _, rfl, hQ _ _ G'⟩)))
/-- the fold over a tuple's items -/
theorem tup_foldG {as : List Addr} {A : Around} {g : List Code} {E : Value → Shared → Prop} (hg : A.guards = some g) (hcl : ∀ b ∈ as, Clear g b) (hr : Room n A) (hf : A.frames = some X.stack) :
    ∀ (its : List Value) (ts : List Str) (acc : Array Str) (m : Nat) (s : Shared) (Q : Array Str × Nat → Shared → Prop), ts.length = its.length → (∀ (i : Nat) (v : Value), its[i]? = some v → ∃ t, ts[i]? = some t ∧ RpG X σ π H0 n as v t) → m + piled ts ≤ sizeLine → Goes X σ π H0 pins s →
      (∀ s', Goes X σ π H0 pins s' → Q (acc ++ ts.toArray, m + piled ts) s') → wpAny (model X.prog X.w) A (forIn its ((acc, m) : Array Str × Nat) tupBody) Q E s
  | [], ts, acc, m, s, Q, hl, _, _, G, hQ => by
    have ht : ts = [] := List.length_eq_zero_iff.mp hl
    subst ht
    rw [List.forIn_nil]
    refine wpAny_pure ?_
    have z := hQ s G
    rw [show acc ++ ([] : List Str).toArray = acc by simp, piled_nil] at z
    exact z
  | y :: its, [], acc, m, s, Q, hl, _, _, G, hQ => by cases hl
  | y :: its, t :: ts, acc, m, s, Q, hl, hT, hz, G, hQ => by
    rw [piled_cons] at hz
    rw [List.forIn_cons]
    obtain ⟨t1, e1, r1⟩ := hT 0 y rfl
    obtain rfl : t = t1 := Option.some.inj e1
    refine wpAny_bind (wpAny_bind (r1 (m + 1) A g pins s E _ (by omega) hg hcl hr hf G fun s' G' => wpAny_pure ?_))
    refine tup_foldG hg hcl hr hf its ts (acc.push t) (m + (t.length + 2)) s' Q (Nat.succ.inj hl) (fun i v h => hT (i + 1) v h) (by omega) G' fun s2 G2 => ?_
    have z := hQ s2 G2
    rw [piled_cons] at z
    rw [show acc.push t ++ ts.toArray = acc ++ (t :: ts).toArray by simp, show m + (t.length + 2) + piled ts = m + (t.length + 2 + piled ts) by omega]
    exact z
theorem w_tup {id : String} (args : Args) (hi : id = "tuple.__repr__" ∨ id = "tuple.__repr__.under") : (Code.builtin id args).weight ≤ 3 ∧ (Code.builtin id args).cUnits ≤ 16 := by
  have f : (Code.builtin id args).frames = 0 := by rcases hi with rfl | rfl <;> first | rfl | simp [Code.frames, Code.isFrame]
  refine ⟨?_, by show 1 + 3 * _ ≤ 16; rw [f]; decide⟩
  have c : (Code.builtin id args).isCreation = false := by rcases hi with rfl | rfl <;> rfl
  have d : (Code.builtin id args).isCaller = false := by rcases hi with rfl | rfl <;> rfl
  have q : (Code.builtin id args).isGuard = true := by
    rcases hi with rfl | rfl
    · exact isGuard_tuple_repr args
    · exact isGuard_tuple_repr_under args
  unfold Code.weight
  rw [c, d, f, q, if_neg (by decide), if_pos rfl, if_neg (by decide)]
  decide
theorem tup_atG {a : Addr} {xs : List V} {ts : List Str} {as : List Addr} {b0 : Nat} {id : String} {rest : List Value} {A : Around} {g : List Code} {R : Result → Shared → Prop} {s : Shared} (hi : id = "tuple.__repr__" ∨ id = "tuple.__repr__.under") (hS : ∀ H, Ex π H0 H → SqT X.K H a xs) (hna : a ∉ as) (hg : A.guards = some g) (hcl : ∀ b ∈ a :: as, Clear g b) (hr : Room (n + 1) A) (hf : A.frames = some X.stack)
    (hT : Txs X σ π H0 n as xs ts) (hsz : b0 + (tupleText ts).length ≤ sizeLine) (G : Goes X σ π H0 pins s) (hR : ∀ s' u, Goes X σ π H0 pins s' → R (.ok (.ret (.str (tupleText ts) u))) s') :
    wpOwn (model X.prog X.w) A (.builtin id ⟨.ref a :: rest, []⟩) (Builtin.tupleReprAt b0 ⟨[.ref a], []⟩) (FinR X A R) (fun e s' => R (.error e) s') s := by
  obtain ⟨H, I, e⟩ := _root_.id G
  obtain ⟨its, rv, ⟨o, ho, hc, m, hd⟩, hl⟩ := I.tuple (hS H e)
  have hlen : ts.length = its.length := hT.1.trans rv.length
  have hp := piled_le_tupleText ts
  have hsz2 : (tupleText ts).length ≤ sizeLine := by omega
  have wu := w_tup (id := id) ⟨.ref a :: rest, []⟩ hi
  have hgd : (Code.builtin id ⟨.ref a :: rest, []⟩).isGuard = true := by
    rcases hi with rfl | rfl
    · exact isGuard_tuple_repr _
    · exact isGuard_tuple_repr_under _
  rw [tuple_repr_tree, tupleReprUnderWay_eq]
  refine wpOwn_bind (wpOwn_stackTailAny hg (tupGuardF_off _) (tupGuardF_pos _) ?_)
  have off : (g.any fun c => tupGuardF (.ref a) (c, default)) = false := List.any_eq_false.mpr fun c hm => by
    rw [tupGuardF_of_clear (hcl a (.head _)) c hm]
    exact Bool.false_ne_true
  rw [off]
  refine wpOwn_of_wpAny ?_
  show wpAny _ _ (tupleReprRest b0 (.ref a)) _ _ s
  unfold tupleReprRest Builtin.Tuple.tupleItemsOf
  refine wpAny_bind (wpAny_bind (wpAny_seqItems ho hd (wpAny_pure ?_)))
  rw [← Array.forIn_toList]
  refine wpAny_bind (tup_foldG (pins := pins) (guards_under_guard hgd hg) (fun b hb => (hcl b (.tail _ hb)).cons (a := a) fun z => hna (z ▸ hb)) (room_under hr wu.1 wu.2) hf _ ts _ _ _ _ (by simpa using hlen) (fun i v h => ?_) (by omega) G fun s' G' => ?_)
  · have h' : its[i]? = some v := by simpa using h
    have hi2 : i < its.length := (List.getElem?_eq_some_iff.mp h').1
    have hx : i < xs.length := by rw [rv.length]; exact hi2
    obtain ⟨t, ht, q⟩ := hT.2 i xs[i] (List.getElem?_eq_getElem hx)
    obtain ⟨v1, e1, rx⟩ := rv.get (List.getElem?_eq_getElem hx)
    obtain rfl : v = v1 := Option.some.inj (h'.symm.trans e1)
    exact ⟨t, ht, q v rx⟩
  · obtain ⟨H', I', e'⟩ := G'
    refine wpAny_bind (wpAny_mkStr (wpAny_pure ?_) (by simpa [tupleText, hlen] using hsz2))
    have z := hR { s' with toks := s'.toks + 1 } s'.toks ⟨H', I'.tok _, e'⟩
    simpa [tupleText, hlen] using z
theorem RpG.tup {a : Addr} {xs : List V} {ts : List Str} {as : List Addr} (hS : ∀ H, Ex π H0 H → SqT X.K H a xs) (hna : a ∉ as) (hT : Txs X σ π H0 n as xs ts) : RpG X σ π H0 (n + 1) (a :: as) (.ref a) (tupleText ts) := fun b0 A g pins s E Q hb hg hcl hr hf G hQ => by
  obtain ⟨H, I, e⟩ := _root_.id G
  obtain ⟨its, rv, ⟨o, ho, hc, m, hd⟩, hl⟩ := I.tuple (hS H e)
  have hu := hr.un
  refine wpAny_pyReprUnder_ref (by omega) ?_
  refine wpAny_pyReprObjUnder_twin (twin := "tuple.__repr__.under") ⟨o, ho, hc⟩ F.slot_tuple_repr rfl (by omega) ?_
  exact call_twin_own (F.quiet_tuple_repr_under _) F.entry_tuple_repr_under F.check_tuple_repr_under ⟨o, ho, hc⟩ F.slot_tuple_repr (F.args_tuple_repr_1 _)
    (tup_atG (pins := pins) (R := callEnd (fun v s' => (∃ x u, v = .str x u) ∧ ∃ x u, v = .str x u ∧ Q x s') E) (.inr rfl) hS hna hg hcl hr hf hT hb G fun s' u G' => ⟨⟨_, _, rfl⟩, _, _, rfl, hQ _ G'⟩)
theorem call_tupG {a : Addr} {xs : List V} {ts : List Str} {as : List Addr} {A : Around} {E : Value → Shared → Prop} {Q : Value → Shared → Prop} {s : Shared} (hS : ∀ H, Ex π H0 H → SqT X.K H a xs) (hna : a ∉ as) (hT : Txs X σ π H0 n as xs ts) (hg : A.guards = some []) (hr : Room (n + 2) A) (hf : A.frames = some X.stack)
    (hsz : (tupleText ts).length ≤ sizeLine) (G : Goes X σ π H0 pins s) (hQ : ∀ s' u, Goes X σ π H0 pins s' → Q (.str (tupleText ts) u) s') : wpAny (model X.prog X.w) A (call (.builtin "repr") [.ref a]) Q E s := by
  obtain ⟨H, I, e⟩ := _root_.id G
  obtain ⟨its, rv, ⟨o, ho, hc, m, hd⟩, hl⟩ := I.tuple (hS H e)
  have hu := hr.un
  refine call_repr_slot (by omega) ⟨o, ho, hc⟩ F.slot_tuple_repr ?_
  exact wpAny_call (codeAny_call_builtin_own (Code.quiet_builtin _ (by decide +kernel)) F.entry_tuple_repr (F.slot_tuple_repr.check _ _ _ _ _ _ _ _ ⟨o, ho, hc⟩ (F.args_tuple_repr_1 _)
    (tup_atG (A := A.in1) (pins := pins) (b0 := 0) (R := callEnd (fun v s' => ∃ x u, v = .str x u ∧ Q v s') E) (.inl rfl) hS hna hg (fun b _ => Clear.nil b) hr.in1 hf hT (by omega) G fun s' u G' => ⟨_, _, rfl, hQ _ _ G'⟩)))
end
end Pd

/-! repr of data that hold instances, by the data alone. -/
namespace Pd
open PySem L2 PySem.Spec PyProof.Rows
mutual
def D.hgt : D → Nat
  | .tup ds => D.hgts ds + 1
  | .lst ds => D.hgts ds + 1
  | .non => 0
  | .bl _ => 0
  | .int _ => 0
  | .str _ => 0
  | .dic _ => 0
  | .pot => 0
  | .ins _ _ => 0
def D.hgts : List D → Nat
  | [] => 0
  | d :: ds => max (D.hgt d) (D.hgts ds)
end
mutual
/-- the text; R: an instance's -/
def D.tx (R : D → Option Str) : D → Option Str
  | .non => some "None"
  | .bl b => some (if b then "True" else "False")
  | .int i => if i.natAbs.log2 < 1920 then some (toString i : String) else none
  | .str x => if (reprText x).length ≤ sizeLine then some (reprText x) else none
  | .tup ds => match D.txs R ds with
    | some ts => some (tupleText ts)
    | none => none
  | .lst ds => match D.txs R ds with
    | some ts => some (listText ts)
    | none => none
  | .dic kvs => if kvs.isEmpty then some "{}" else none
  | .pot => none
  | .ins c fs => R (.ins c fs)
def D.txs (R : D → Option Str) : List D → Option (List Str)
  | [] => some []
  | d :: ds => match D.tx R d with
    | none => none
    | some t => match D.txs R ds with
      | none => none
      | some ts => some (t :: ts)
end
/-- constant tuples stand apart -/
structure Apart (K : PySem.W.Frag) (π : Addr) (H : Hp) : Prop where
  inj : ∀ (a : Addr) (xs ys : List V), (∀ H', SqT K H' a xs) → (∀ H', SqT K H' a ys) → xs = ys
  off : ∀ (a : Addr) (xs : List V), (∀ H', SqT K H' a xs) → H a = none
  pot : ∀ (xs : List V), ¬ ∀ H', SqT K H' π xs
theorem txs_cons {R : D → Option Str} {d : D} {ds : List D} {ts : List Str} (h : D.txs R (d :: ds) = some ts) : ∃ t us, ts = t :: us ∧ D.tx R d = some t ∧ D.txs R ds = some us := by
  unfold D.txs at h
  split at h
  · cases h
  · rename_i t ht
    split at h
    · cases h
    · rename_i us hu
      cases h
      exact ⟨_, _, rfl, ht, hu⟩
theorem tx_tup {R : D → Option Str} {ds : List D} {t : Str} (h : D.tx R (.tup ds) = some t) : ∃ ts, D.txs R ds = some ts ∧ t = tupleText ts := by
  unfold D.tx at h
  split at h
  · rename_i ts hs
    cases h
    exact ⟨_, hs, rfl⟩
  · cases h
theorem tx_lst {R : D → Option Str} {ds : List D} {t : Str} (h : D.tx R (.lst ds) = some t) : ∃ ts, D.txs R ds = some ts ∧ t = listText ts := by
  unfold D.tx at h
  split at h
  · rename_i ts hs
    cases h
    exact ⟨_, hs, rfl⟩
  · cases h
theorem tx_dic {R : D → Option Str} {kvs : List (D × D)} {t : Str} (h : D.tx R (.dic kvs) = some t) : kvs = [] ∧ t = "{}" := by
  unfold D.tx at h
  split at h
  · rename_i e
    cases h
    exact ⟨List.isEmpty_iff.mp e, rfl⟩
  · cases h
section
variable {K : PySem.W.Frag} {P : Program} {w : World} {π : Addr} {H : Hp} {R : D → Option Str}
mutual
theorem hgt_same (f : Apart K π H) : ∀ {d d' : D} {v : V} {t : Str}, D.tx R d = some t → Rv K P w π H v d → Rv K P w π H v d' → D.hgt d' = D.hgt d
  | .non, d', v, t, h, r, r' => by cases r; cases r'; rfl
  | .bl _, d', v, t, h, r, r' => by cases r; cases r'; rfl
  | .int _, d', v, t, h, r, r' => by cases r; cases r'; rfl
  | .str _, d', v, t, h, r, r' => by cases r; cases r'; rfl
  | .dic _, d', v, t, h, r, r' => by
    cases r with
    | dic e n _ => cases r' with
      | tup e' n' l' => rw [e] at e'; cases e'
      | tupK e' l' => rw [f.off _ _ e'] at e; cases e
      | lst e' n' l' => rw [e] at e'; cases e'
      | dic e' n' l' => rfl
      | pot => exact absurd rfl n
      | ins c' e' n' fs' => rfl
  | .pot, d', v, t, h, r, r' => by cases h
  | .ins _ _, d', v, t, h, r, r' => by
    cases r with
    | ins c e n fs => cases r' with
      | tup e' n' l' => rw [e] at e'; cases e'
      | tupK e' l' => rw [f.off _ _ e'] at e; cases e
      | lst e' n' l' => rw [e] at e'; cases e'
      | dic e' n' l' => rfl
      | pot => exact absurd rfl n
      | ins c' e' n' fs' => rfl
  | .lst ds, d', v, t, h, r, r' => by
    obtain ⟨ts, hs, _⟩ := tx_lst h
    cases r with
    | lst e n l => cases r' with
      | tup e' n' l' => rw [e] at e'; cases e'
      | tupK e' l' => rw [f.off _ _ e'] at e; cases e
      | lst e' n' l' =>
        rw [e] at e'
        cases e'
        exact congrArg Nat.succ (hgts_same f hs l l')
      | dic e' n' l' => rw [e] at e'; cases e'
      | pot => exact absurd rfl n
      | ins c' e' n' fs' => rw [e] at e'; cases e'
  | .tup ds, d', v, t, h, r, r' => by
    obtain ⟨ts, hs, _⟩ := tx_tup h
    cases r with
    | tup e n l => cases r' with
      | tup e' n' l' =>
        rw [e] at e'
        cases e'
        exact congrArg Nat.succ (hgts_same f hs l l')
      | tupK e' l' => rw [f.off _ _ e'] at e; cases e
      | lst e' n' l' => rw [e] at e'; cases e'
      | dic e' n' l' => rw [e] at e'; cases e'
      | pot => exact absurd rfl n
      | ins c' e' n' fs' => rw [e] at e'; cases e'
    | tupK e l => cases r' with
      | tup e' n' l' => rw [f.off _ _ e] at e'; cases e'
      | tupK e' l' =>
        have z := f.inj _ _ _ e e'
        subst z
        exact congrArg Nat.succ (hgts_same f hs l l')
      | lst e' n' l' => rw [f.off _ _ e] at e'; cases e'
      | dic e' n' l' => rw [f.off _ _ e] at e'; cases e'
      | pot => exact absurd e (f.pot _)
      | ins c' e' n' fs' => rw [f.off _ _ e] at e'; cases e'
theorem hgts_same (f : Apart K π H) : ∀ {ds ds' : List D} {vs : List V} {ts : List Str}, D.txs R ds = some ts → RvL K P w π H vs ds → RvL K P w π H vs ds' → D.hgts ds' = D.hgts ds
  | [], ds', vs, ts, h, r, r' => by cases r; cases r'; rfl
  | d :: ds, ds', vs, ts, h, r, r' => by
    obtain ⟨t, us, _, h1, h2⟩ := txs_cons h
    cases r with
    | cons r l => cases r' with
      | cons r' l' =>
        show max _ _ = max _ _
        rw [hgt_same f h1 r r', hgts_same f h2 l l']
end
end
section
variable {X : Cx} {σ : L2.St} {π : Addr} {H0 : Hp} {N : Addr → Bool} {pins : List (Addr × Obj)}
theorem Apart.of {s : Shared} {H : Hp} (I : Inv X pins σ H s) (hp : PotOk H π) : Apart X.K π (Hide N H) := by
  have none : ∀ (a : Addr) (xs : List V), (∀ H', SqT X.K H' a xs) → H a = none := fun a xs h => by
    rcases h (fun _ => Option.none) with z | ⟨o, its, n, hk, _⟩
    · rcases z with z | ⟨o, z⟩ <;> cases z
    · exact (I.bs a o (I.ok.mod.kin a o hk)).2
  refine ⟨fun a xs ys h h' => I.tuple_inj (h H) (h' H), fun a xs h => ?_, fun xs h => ?_⟩
  · unfold Hide
    split
    · rfl
    · exact none a xs h
  · obtain ⟨x, y, e, _⟩ := hp
    rw [none π xs h] at e
    cases e
/-- {} -/
theorem RpG.dict0 {n : Nat} {a : Addr} {od : Obj} (ha : H0 a = some (.frz od (DN X.prog X.w a []))) (hap : a ≠ π) : RpG X σ π H0 n [a] (.ref a) "{}" := fun b0 A g pins s E Q hb hg hcl hr hf ⟨H, I, e⟩ hQ => by
  obtain ⟨sys, _, zs, pr, o, es, ep, h1, h2, h3, h4, _⟩ := dn_of (xs := []) I (.inr ⟨od, e.kp a _ hap ha⟩) ⟨π, fun _ => false, [], .nil⟩
  have hz : es = #[] := by
    have q : zs = [] := by cases pr; rfl
    subst q
    exact Array.toList_eq_nil_iff.mp h4
  subst hz
  have hu := hr.un
  exact (ReprK.dict (prog := X.prog) (w := X.w) (as := []) (h₀ := s.heap) (d := 0) h1 h2.1 h3 sys (fun z => nomatch z) .nil) b0 hb A g E s _ hg hcl (by omega) (fun _ _ z => z) fun h' tk hk => hQ _ ⟨H, I.kept (t' := tk) hk, e⟩
/-- an instance's text by its own method -/
def TxOk (X : Cx) (k : Nat) (R : D → Option Str) : Prop := ∀ (c : Str) (fs : List (Str × D)) (t : Str), R (.ins c fs) = some t → ∃ (C f : Addr) (fd : FuncData) (ps : List Str) (F : List D → T D), ClsAt X.K c C ∧ OwnTxt X.K C "__repr__" f ∧ FnOk X.prog X.w X.K X.mg X.base CX0 k f fd ps (spD X.K X.prog X.w 1 F) ∧ Binds X.K fd ps [] ∧ F [.ins c fs] = .ret (.str t)
/-- the places under way, all of things of no greater height -/
def Low (X : Cx) (π : Addr) (H : Hp) (R : D → Option Str) (m : Nat) (as : List Addr) : Prop := ∀ b ∈ as, ∃ d, Rv X.K X.prog X.w π H (.ref b) d ∧ (∃ t, D.tx R d = some t) ∧ D.hgt d ≤ m
theorem low_nil {π : Addr} {H : Hp} {R : D → Option Str} {m : Nat} : Low X π H R m [] := fun _ z => (List.not_mem_nil z).elim
mutual
theorem tx_run {k : Nat} {R : D → Option Str} (hR : TxOk X k R) (hn : HN π N H0) (f : Apart X.K π (Hide N H0)) : ∀ {d : D} {v : V} {t : Str}, D.tx R d = some t → Rv X.K X.prog X.w π (Hide N H0) v d → ∃ as, Low X π (Hide N H0) R (D.hgt d) as ∧ ∀ u, RelV v u → RpG X σ π H0 (k + D.hgt d) as u t
  | .non, v, t, h, r => by
    cases r; cases h
    exact ⟨[], low_nil, fun u ru => by cases ru; exact .leaf .none⟩
  | .bl b, v, t, h, r => by
    cases r; cases h
    exact ⟨[], low_nil, fun u ru => by cases ru; exact .leaf (.bool b)⟩
  | .int i, v, t, h, r => by
    cases r
    unfold D.tx at h
    split at h
    · rename_i hi
      cases h
      exact ⟨[], low_nil, fun u ru => by obtain ⟨tk, rfl⟩ := ru; exact .leaf (.int tk hi)⟩
    · cases h
  | .str x, v, t, h, r => by
    cases r
    unfold D.tx at h
    split at h
    · rename_i hx
      cases h
      exact ⟨[], low_nil, fun u ru => by obtain ⟨tk, rfl⟩ := ru; exact .leaf (.str x tk hx)⟩
    · cases h
  | .dic _, v, t, h, r => by
    obtain ⟨rfl, rfl⟩ := tx_dic h
    have r0 := r
    cases r with
    | dic e n l =>
      cases l
      exact ⟨[_], fun b hb => by obtain rfl := List.mem_singleton.mp hb; exact ⟨_, r0, ⟨_, h⟩, Nat.le_refl _⟩, fun u ru => by cases ru; exact .dict0 (hide_some e).2 n⟩
  | .pot, v, t, h, r => by cases h
  | .ins c fs, v, t, h, r => by
    obtain ⟨C, fa, fd, ps, F, at_, O, G, B, hF⟩ := hR c fs t h
    have r0 := r
    cases r with
    | ins hc e n fs' =>
      have ec := at_.one hc
      subst ec
      exact ⟨[], low_nil, fun u ru => by cases ru; exact (RpG.own O G B hn (hide_some e).2 n r0 hF).mono (Nat.le_add_right _ _)⟩
  | .lst ds, v, t, h, r => by
    obtain ⟨ts, hs, rfl⟩ := tx_lst h
    have r0 := r
    cases r with
    | lst e n l =>
      rename_i a vs
      obtain ⟨as, lo, T⟩ := txs_run hR hn f hs l
      refine ⟨a :: as, fun b hb => ?_, fun u ru => by
        cases ru
        refine RpG.list (hide_some e).2 n (fun z => ?_) T
        obtain ⟨d', r', ⟨t', h'⟩, l'⟩ := lo a z
        have q := hgt_same f h r0 r'
        rw [q] at l'
        exact absurd l' (Nat.not_succ_le_self _)⟩
      rcases List.mem_cons.mp hb with z | z
      · subst z
        exact ⟨_, r0, ⟨_, h⟩, Nat.le_refl _⟩
      · obtain ⟨d', r', h', l'⟩ := lo b z
        exact ⟨d', r', h', Nat.le_succ_of_le l'⟩
  | .tup ds, v, t, h, r => by
    obtain ⟨ts, hs, rfl⟩ := tx_tup h
    have go : ∀ (a : Addr) (vs : List V), v = .ref a → (∀ H, Ex π H0 H → SqT X.K H a vs) → RvL X.K X.prog X.w π (Hide N H0) vs ds → ∃ as, Low X π (Hide N H0) R (D.hgt (.tup ds)) as ∧ ∀ u, RelV v u → RpG X σ π H0 (k + D.hgt (.tup ds)) as u (tupleText ts) := fun a vs ev hS l => by
      subst ev
      obtain ⟨as, lo, T⟩ := txs_run hR hn f hs l
      refine ⟨a :: as, fun b hb => ?_, fun u ru => by
        cases ru
        refine RpG.tup hS (fun z => ?_) T
        obtain ⟨d', r', ⟨t', h'⟩, l'⟩ := lo a z
        have q := hgt_same f h r r'
        rw [q] at l'
        exact absurd l' (Nat.not_succ_le_self _)⟩
      rcases List.mem_cons.mp hb with z | z
      · subst z
        exact ⟨_, r, ⟨_, h⟩, Nat.le_refl _⟩
      · obtain ⟨d', r', h', l'⟩ := lo b z
        exact ⟨d', r', h', Nat.le_succ_of_le l'⟩
    cases r with
    | tup e n l => exact go _ _ rfl (fun H x => .of (x.kp _ _ n (hide_some e).2)) l
    | tupK e l => exact go _ _ rfl (fun H _ => e H) l
theorem txs_run {k : Nat} {R : D → Option Str} (hR : TxOk X k R) (hn : HN π N H0) (f : Apart X.K π (Hide N H0)) : ∀ {ds : List D} {vs : List V} {ts : List Str}, D.txs R ds = some ts → RvL X.K X.prog X.w π (Hide N H0) vs ds → ∃ as, Low X π (Hide N H0) R (D.hgts ds) as ∧ Txs X σ π H0 (k + D.hgts ds) as vs ts
  | [], vs, ts, h, r => by
    cases r; cases h
    exact ⟨[], low_nil, rfl, fun i x z => by simp at z⟩
  | d :: ds, vs, ts, h, r => by
    obtain ⟨t, us, rfl, h1, h2⟩ := txs_cons h
    cases r with
    | cons r l =>
      obtain ⟨as, lo, T⟩ := tx_run hR hn f h1 r
      obtain ⟨bs, lo2, T2⟩ := txs_run hR hn f h2 l
      have m1 : D.hgt d ≤ D.hgts (d :: ds) := Nat.le_max_left _ _
      have m2 : D.hgts ds ≤ D.hgts (d :: ds) := Nat.le_max_right _ _
      refine ⟨as ++ bs, fun b hb => ?_, congrArg Nat.succ T2.1, fun i x z => ?_⟩
      · rcases List.mem_append.mp hb with z | z
        · obtain ⟨d', r', h', l'⟩ := lo b z
          exact ⟨d', r', h', Nat.le_trans l' m1⟩
        · obtain ⟨d', r', h', l'⟩ := lo2 b z
          exact ⟨d', r', h', Nat.le_trans l' m2⟩
      · cases i with
        | zero =>
          cases z
          exact ⟨t, rfl, fun v rv => ((T v rv).mono (Nat.add_le_add_left m1 k)).more fun b hb => List.mem_append_left _ hb⟩
        | succ i =>
          obtain ⟨t', ht, q⟩ := T2.2 i x z
          exact ⟨t', ht, fun v rv => ((q v rv).mono (Nat.add_le_add_left m2 k)).more fun b hb => List.mem_append_right _ hb⟩
end
end
/-! the built-in repr -/
def isSq : D → Bool
  | .tup _ => true
  | .lst _ => true
  | _ => false
/-- repr(d) -/
def bReprR (R : D → Option Str) : List D → T D
  | [d] => match D.tx R d with
    | some t => cond (decide (D.hgt d ≤ 6) && decide (t.length ≤ 100000)) (.ret (.str t)) .fail
    | none => .fail
  | _ => .fail
section
variable {X : Cx} {k : Nat} {R : D → Option Str}
theorem cs_reprR (hR : TxOk X k R) (hg : X.A.guards = some []) (hr : Room (k + 8) X.A) : CaSnd X (.builtin "repr") (bReprR R) := fun {π N H xs ds Q} hn r h => by
  unfold bReprR at h
  split at h
  · rename_i d
    split at h
    · rename_i t ht
      obtain ⟨hb, h⟩ := cond_all h
      simp only [Bool.and_eq_true, decide_eq_true_eq] at hb
      obtain ⟨b2, b3⟩ := hb
      cases r with
      | cons r tl =>
      cases tl
      have hsz : t.length ≤ sizeLine := Nat.le_trans b3 (by decide)
      refine ⟨fun ys H' Q => ys = [_] ∧ H' = H ∧ ∀ H2, Ex π H H2 → Q (.str t) H2, ?_, rfl, rfl, fun H2 e => h _ _ e (.str _)⟩
      intro pins s σ H1 ys vs Q I rvs q
      obtain ⟨rfl, rfl, hq⟩ := q
      obtain ⟨v, rfl, rx⟩ := vals1 rvs
      have hu := hr.un
      have f : Apart X.K π (Hide N H1) := Apart.of I hn.pot
      have G : Goes X σ π H1 pins s := ⟨H1, I, Ex.refl hn.pot⟩
      have fin : ∀ s' u, Goes X σ π H1 pins s' → EP X pins σ Q (.str t u) s' := fun s' u ⟨H', I', e'⟩ => ⟨.str t, H', I', ⟨u, rfl⟩, hq _ e'⟩
      have tok : ∀ tk, EP X pins σ Q (.str t s.toks) { s with toks := tk } := fun tk => fin _ _ ⟨H1, I.tok tk, Ex.refl hn.pot⟩
      cases d with
      | non => cases r; cases rx; cases ht; exact P.repr_of_none (tok _)
      | bl b => cases r; cases rx; cases ht; exact P.repr_of_bool (by cases b <;> exact tok _)
      | int i =>
        cases r
        obtain ⟨tk, rfl⟩ := rx
        unfold D.tx at ht
        split at ht
        · rename_i hi
          cases ht
          exact P.repr_of_int hi (tok _)
        · cases ht
      | str x =>
        cases r
        obtain ⟨tk, rfl⟩ := rx
        unfold D.tx at ht
        split at ht
        · rename_i hx
          cases ht
          exact P.repr_of_str (tok _) hx
        · cases ht
      | pot => cases ht
      | dic kvs =>
        obtain ⟨rfl, rfl⟩ := tx_dic ht
        cases r with
        | dic e n l =>
          cases l
          cases rx
          obtain ⟨sys, _, zs, pr, o, es, ep, h1, h2, h3, h4, _⟩ := dn_of (xs := []) I (.inr ⟨_, (hide_some e).2⟩) ⟨π, fun _ => false, [], .nil⟩
          have hz : es = #[] := by
            have q : zs = [] := by cases pr; rfl
            subst q
            exact Array.toList_eq_nil_iff.mp h4
          subst hz
          exact call_repr_slot (by omega) ⟨o, h1, h2.1⟩ F.slot_dict_repr (call_dict_reprK (as := []) (h₀ := s.heap) (d := 0) (ps := []) (g := []) h1 h2.1 h3 sys (fun z => nomatch z) .nil hg (fun b _ => Clear.nil b) (by show X.A.units + 1 + (0 + 1) < cLine; omega) (fun _ _ z => z) (fun h' u tk hk => ⟨_, _, rfl, fin _ _ ⟨H1, I.kept (t' := tk) hk, Ex.refl hn.pot⟩⟩) hsz)
      | ins c fs =>
        obtain ⟨C, fa, fd, ps, F, at_, O, G2, B, hF⟩ := hR c fs t ht
        have r0 := r
        cases r with
        | ins hc e n fs' =>
          have ec := at_.one hc
          subst ec
          cases rx
          have ha := (hide_some e).2
          obtain ⟨mA, M, _, _, _, _⟩ := ins_get I.hok ha
          obtain ⟨od, J, _⟩ := M.look
          obtain ⟨m, Fr0⟩ := I.fr
          have sp : ∀ (Q : VK) (E : XK), (∀ v H2, v = .str t → Ex π H1 H2 → Q v H2) → spD X.K X.prog X.w 1 F [.ref _] H1 Q E := fun Q E h => ⟨π, N, [_], hn, .cons r0 .nil, rfl, by rw [hF]; exact fun v H' e2 rv => h v H' (by cases rv; rfl) e2⟩
          refine PySem.W.repr_K (by show X.A.units + 1 < cLine; omega) Fr0 I.ok.mod.kin J O.at_ O.fn (wpAny_call (codeAny_mono (G2.run X.A.in1 X.stack s H1 ⟨[.ref _], []⟩ [.ref _] [.ref _] (fun v H2 => v = .str t ∧ Ex π H1 H2) E0 (hr.mono (by omega : k + 1 ≤ k + 8)).in1 I.env0.in1 (B s [.ref _] I.kIn (G2.len _ H1 (fun _ _ => True) E0 (sp _ _ fun _ _ _ _ => trivial))) (.cons rfl .nil) (sp _ _ fun v H2 z1 z2 => ⟨z1, z2⟩)) fun r s' hq2 => ?_))
          cases r with
          | error er => exact hq2.elim
          | ok fl =>
            cases fl with
            | ret u =>
              obtain ⟨v, H', I3, rv, ev, q⟩ := I.after hq2
              subst ev
              obtain ⟨tk, rfl⟩ := rv
              exact fin _ _ ⟨H', I3, q⟩
            | next => exact False.elim hq2
            | brk => exact False.elim hq2
            | cont => exact False.elim hq2
      | lst ds =>
        obtain ⟨ts, hs, rfl⟩ := tx_lst ht
        have r0 := r
        cases r with
        | lst e n l =>
          obtain ⟨as, lo, T⟩ := txs_run (σ := σ) hR hn f hs l
          cases rx
          refine call_listG (n := k + D.hgts ds) (hide_some e).2 n (fun z => ?_) T hg (hr.mono ?_) I.env0.frames hsz G fin
          · obtain ⟨d', r', ⟨t', h'⟩, l'⟩ := lo _ z
            have q := hgt_same f ht r0 r'
            rw [q] at l'
            exact absurd l' (Nat.not_succ_le_self _)
          · have : D.hgts ds + 1 ≤ 6 := b2
            omega
      | tup ds =>
        obtain ⟨ts, hs, rfl⟩ := tx_tup ht
        have go : ∀ (a : Addr) (vs : List V), v = .ref a → Rv X.K X.prog X.w π (Hide N H1) (.ref a) (.tup ds) → (∀ H, Ex π H1 H → SqT X.K H a vs) → RvL X.K X.prog X.w π (Hide N H1) vs ds → wpAny (model X.prog X.w) X.A (call (.builtin "repr") [v]) (EP X pins σ Q) X.xe s := fun a vs ev r0 hS l => by
          subst ev
          obtain ⟨as, lo, T⟩ := txs_run (σ := σ) hR hn f hs l
          refine call_tupG (n := k + D.hgts ds) hS (fun z => ?_) T hg (hr.mono ?_) I.env0.frames hsz G fin
          · obtain ⟨d', r', ⟨t', h'⟩, l'⟩ := lo _ z
            have q := hgt_same f ht r0 r'
            rw [q] at l'
            exact absurd l' (Nat.not_succ_le_self _)
          · have : D.hgts ds + 1 ≤ 6 := b2
            omega
        have r0 := r
        cases r with
        | tup e n l => cases rx; exact go _ _ rfl r0 (fun H x => .of (x.kp _ _ n (hide_some e).2)) l
        | tupK e l => cases rx; exact go _ _ rfl r0 (fun H _ => e H) l
    · exact False.elim h
  · exact False.elim h
end
end Pd

/-! == and != of lists and tuples that hold instances, != of instances: where the two are alike. -/
namespace Pd
open PySem L2 PySem.Spec PyProof.Rows
section
variable {prog : Program} {w : World} {A : Around} {R : Result → Shared → Prop}
open AutoSeq1 (wpAny_loadPart')
open MeetsSeq MeetsSeq2 MeetsSeq3 SeqRoads2
open SeqAt
/-- all items alike: != says False -/
theorem ne_turns (l b : Addr) (N : Nat) (J : Nat → Shared → Prop) (hJ : GQ.ListI prog w A (fun e s' => R (.error e) s') l b N J) (done : ∀ s, J N s → R (.ok (.ret (.bool false))) s) :
    ∀ (k i : Nat), N - i = k → i ≤ N → ∀ s, J i s → wpAny (model prog w) A.in1 (Builtin.«list.__eq__.loop» ⟨[.ref l, .ref b, rawInt i, rawInt 3], []⟩) (GQ.FinOf prog w A R) (fun e s' => R (.error e) s') s := by
  intro k
  induction k with
  | zero =>
    intro i hk hi s j
    obtain ⟨xs, ys, m, m2, g1, g2, z1, z2, _⟩ := hJ _ _ j
    obtain rfl : i = N := by omega
    have q := done s j
    obtain ⟨hp, gs, dr, tk, o⟩ := s
    wp_walk using wpAny_loadPart' g1, wpAny_loadPart' g2
    have n1 : xs[((i : Nat) : Int).toNat]? = none := by simp; omega
    have n2 : ys[((i : Nat) : Int).toNat]? = none := by simp; omega
    rw [n1, n2]
    wp_walk using wpAny_loadPart' g1, wpAny_loadPart' g2
    show R (.ok (.ret (.bool (xs.size != ys.size)))) _
    rw [z1, z2]
    simpa using q
  | succ k ih =>
    intro i hk hi s j
    obtain ⟨xs, ys, m, m2, g1, g2, z1, z2, one⟩ := hJ _ _ j
    have b1 : i < xs.size := by omega
    have b2 : i < ys.size := by omega
    have turn := one b1 b2
    obtain ⟨hp, gs, dr, tk, o⟩ := s
    wp_walk using wpAny_loadPart' g1, wpAny_loadPart' g2
    have n1 : xs[((i : Nat) : Int).toNat]? = some xs[i] := by simp [b1]
    have n2 : ys[((i : Nat) : Int).toNat]? = some ys[i] := by simp [b2]
    have nx : ((i : Int) + 1) = ((i + 1 : Nat) : Int) := by omega
    rw [n1, n2]
    refine wpAny_bind (wpAny_mono turn (fun r s2 z => ?_) fun _ _ z => z)
    obtain ⟨er, z⟩ := z
    subst er
    have rest := ih (i + 1) (by omega) (by omega) s2 z
    obtain ⟨hp2, gs2, dr2, tk2, o2⟩ := s2
    wp_walk
    rw [nx]
    exact ⟨plainId_quiet plain_eq_loop _, codeAny_builtin entry_eq_loop (by rw [Around.under_plainId plain_eq_loop _]; exact rest)⟩
theorem ne_lists (l b : Addr) (N : Nat) (J : Nat → Shared → Prop) (hJ : GQ.ListI prog w A (fun e s' => R (.error e) s') l b N J) (done : ∀ s, J N s → R (.ok (.ret (.bool false))) s) {s : Shared} (j : J 0 s) :
    wpAny (model prog w) A.in1 (Builtin.«list.__ne__» ⟨[.ref l, .ref b], []⟩) (GQ.FinOf prog w A R) (fun e s' => R (.error e) s') s := by
  obtain ⟨xs, ys, m, m2, g1, g2, z1, z2, _⟩ := hJ _ _ j
  have rest := ne_turns (A := A) (R := R) l b N J hJ done _ 0 rfl (Nat.zero_le _) s j
  obtain ⟨hp, gs, dr, tk, o⟩ := s
  have f3 := AutoSeq1.sub_list_list
  have same : ¬ (xs.size != ys.size) = true := by simp [z1, z2]
  wp_walk using wpAny_loadPart' g1, wpAny_loadPart' g2
  exact ⟨plainId_quiet plain_eq_loop _, codeAny_builtin entry_eq_loop (by rw [Around.under_plainId plain_eq_loop _]; exact rest)⟩
theorem ne_tups (l b : Addr) (xs ys : Array Value) (m m2 : Nat) (d1 d2 : Option Addr) (sl sl2 : Array (Option Value)) (hz : xs.size = ys.size) (J : Nat → Shared → Prop)
    (turn : ∀ i (b1 : i < xs.size) (b2 : i < ys.size) s, J i s → wpAny (model prog w) A.in1 (eqBool xs[i] ys[i]) (fun r s' => r = true ∧ J (i + 1) s') (fun e s' => R (.error e) s') s) (done : ∀ s, J xs.size s → R (.ok (.ret (.bool false))) s)
    {s : Shared} (g1 : s.heap.get? l = some { cls := .type "tuple", dict := d1, data := .seq xs m, slots := sl }) (g2 : s.heap.get? b = some { cls := .type "tuple", dict := d2, data := .seq ys m2, slots := sl2 }) (j : J 0 s) :
    wpAny (model prog w) A.in1 (Builtin.«tuple.__ne__» ⟨[.ref l, .ref b], []⟩) (GQ.FinOf prog w A R) (fun e s' => R (.error e) s') s := by
  have f2 := AutoSeq1.sub_tuple_tuple
  have zl : (xs.toList.zip ys.toList).length = xs.size := by simp [hz]
  have j0 := j
  obtain ⟨hp, gs, dr, tk, o⟩ := s
  wp_walk using wpAny_loadPart' g1, wpAny_loadPart' g2, wpAny_forIn_list _ (fun rest q s' => q.1 = none ∧ ∃ i, rest = (xs.toList.zip ys.toList).drop i ∧ i ≤ xs.size ∧ J i s') _
  case turn =>
    rintro ⟨y, x⟩ rest q s' ⟨q1, i, hr, hi, ji⟩
    have lt : i < (xs.toList.zip ys.toList).length := by
      rcases Nat.lt_or_ge i (xs.toList.zip ys.toList).length with z | z
      · exact z
      · rw [List.drop_of_length_le z] at hr; cases hr
    have b1 : i < xs.size := zl ▸ lt
    have b2 : i < ys.size := hz ▸ b1
    rw [List.drop_eq_getElem_cons lt] at hr
    injection hr with hyx hrest
    have ey : y = xs[i] := by have := congrArg Prod.fst hyx; simpa using this
    have ex : x = ys[i] := by have := congrArg Prod.snd hyx; simpa using this
    subst ey ex
    refine wpAny_bind (wpAny_mono (turn i b1 b2 s' ji) (fun r s2 z => ?_) fun _ _ z => z)
    obtain ⟨er, z⟩ := z
    subst er
    wp_walk
    exact ⟨rfl, i + 1, hrest, b1, z⟩
  case fin =>
    rintro ⟨q1, q2⟩ s' ⟨q0, i, hr, hi, ji⟩
    simp only at q0
    subst q0
    have ge : xs.size ≤ i := by
      rcases Nat.lt_or_ge i (xs.toList.zip ys.toList).length with z | z
      · rw [List.drop_eq_getElem_cons z] at hr; cases hr
      · exact zl ▸ z
    obtain rfl : i = xs.size := by omega
    have q := done s' ji
    wp_walk
    simpa [Builtin.Tuple.tupleCompareSizes, hz] using q
  case h => exact ⟨rfl, 0, rfl, Nat.zero_le _, j0⟩
end
section
variable {prog : Program} {w : World} {A : Around} {E : Value → Shared → Prop} {s : Shared}
theorem rcn_lists {l b : Addr} {N : Nat} {Q : Value → Shared → Prop} (hu : A.units < cLine) (J : Nat → Shared → Prop) (hJ : GQ.ListI prog w A E l b N J) (done : ∀ s, J N s → Q (.bool false) s) (j : J 0 s) : wpAny (model prog w) A (richCompare .NotEq (.ref l) (.ref b)) Q E s := by
  obtain ⟨xs, ys, m, m2, g1, g2, _, _, _⟩ := hJ _ _ j
  refine wpAny_richCompare_same_room (op := .NotEq) ⟨_, g1, rfl⟩ ⟨_, g2, rfl⟩ F.slot_list_ne (GQ.call_here F.slot_list_ne ⟨_, g1, rfl⟩ F.entry_list_ne (F.args_list_ne_2 _ _) ?_) hu
  exact ne_lists (R := wants (fun v s' => v ≠ .notImplemented ∧ Q v s') E) l b N J hJ (fun s' q => ⟨(fun x => nomatch x), done s' q⟩) j
theorem rcn_tups {l b : Addr} {xs ys : Array Value} {Q : Value → Shared → Prop} (hz : xs.size = ys.size) (hu : A.units < cLine) (J : Nat → Shared → Prop) (hl : s.heap.IsTuple l xs) (hb : s.heap.IsTuple b ys)
    (turn : ∀ i (b1 : i < xs.size) (b2 : i < ys.size) s, J i s → wpAny (model prog w) A.in1 (eqBool xs[i] ys[i]) (fun r s' => r = true ∧ J (i + 1) s') E s) (done : ∀ s, J xs.size s → Q (.bool false) s) (j : J 0 s) : wpAny (model prog w) A (richCompare .NotEq (.ref l) (.ref b)) Q E s := by
  obtain ⟨⟨c1, d1, t1, sl⟩, g1, hc, m, hd⟩ := id hl
  obtain ⟨⟨c2, d2, t2, sl2⟩, g2, hc2, m2, hd2⟩ := id hb
  simp only at hc hd hc2 hd2
  subst hc hd hc2 hd2
  refine wpAny_richCompare_same_room (op := .NotEq) ⟨_, g1, rfl⟩ ⟨_, g2, rfl⟩ F.slot_tuple_ne (GQ.call_here F.slot_tuple_ne ⟨_, g1, rfl⟩ F.entry_tuple_ne (F.args_tuple_ne_2 _ _) ?_) hu
  exact ne_tups (R := wants (fun v s' => v ≠ .notImplemented ∧ Q v s') E) l b xs ys m m2 d1 d2 sl sl2 hz J turn (fun s' q => ⟨(fun x => nomatch x), done s' q⟩) g1 g2 j
end
end Pd

/-! == of data that hold instances, by the data alone. -/
namespace Pd
open PySem L2 PySem.Spec PyProof.Rows
/-- u == v gives True, asked under way -/
def EqW (X : Cx) (σ : L2.St) (π : Addr) (H0 : Hp) (n : Nat) (u v : Value) : Prop :=
  ∀ (A : Around) (pins : List (Addr × Obj)) (s : Shared) (E : Value → Shared → Prop) (Q : Bool → Shared → Prop), Room n A → A.frames = some X.stack → Goes X σ π H0 pins s → (∀ s', Goes X σ π H0 pins s' → Q true s') → wpAny (model X.prog X.w) A (eqBool u v) Q E s
/-- the rich comparison says b -/
def RcW (X : Cx) (σ : L2.St) (π : Addr) (H0 : Hp) (n : Nat) (op : CmpOp) (b : Bool) (u v : Value) : Prop :=
  ∀ (A : Around) (pins : List (Addr × Obj)) (s : Shared) (E : Value → Shared → Prop) (Q : Value → Shared → Prop), Room n A → A.frames = some X.stack → Goes X σ π H0 pins s → (∀ s', Goes X σ π H0 pins s' → Q (.bool b) s') → wpAny (model X.prog X.w) A (richCompare op u v) Q E s
/-- the items are alike, one by one -/
def EqsW (X : Cx) (σ : L2.St) (π : Addr) (H0 : Hp) (n : Nat) (xs ys : List V) : Prop :=
  xs.length = ys.length ∧ ∀ (i : Nat) (x y : V), xs[i]? = some x → ys[i]? = some y → ∀ u v, RelV x u → RelV y v → EqW X σ π H0 n u v
section
variable {X : Cx} {σ : L2.St} {π : Addr} {H0 : Hp} {n : Nat}
theorem EqW.mono {m n : Nat} {u v : Value} (h : EqW X σ π H0 m u v) (l : m ≤ n) : EqW X σ π H0 n u v := fun A pins s E Q hr => h A pins s E Q (hr.mono l)
theorem room_units {A : Around} (hr : Room n A) : A.units + 1 < cLine := by have := hr.un; omega
theorem RcW.eq {a b : Addr} (h : RcW X σ π H0 n .Eq true (.ref a) (.ref b)) : EqW X σ π H0 n (.ref a) (.ref b) := fun A pins s E Q hr hf G hQ => by
  by_cases e : a = b
  · subst e
    exact SeqAt.EqAt.same (A := A) (s := s) (.ref a) X.prog X.w E _ (hQ s G)
  · exact GQ.eqBool_refG e (h A pins s E _ hr hf G fun s' G' => ⟨true, rfl, hQ s' G'⟩)
theorem EqW.flat {x y : V} {u v : Value} (rx : RelV x u) (ry : RelV y v) (fx : flatV x = true) (fy : flatV y = true) (e : eqV x y = true) : EqW X σ π H0 n u v := fun A pins s E Q hr hf G hQ => by
  have q := eqAt_V (A := A) (s := s) rx ry fx fy
  rw [e] at q
  exact q X.prog X.w E _ (hQ s G)
/-- one turn of a loop over two runs of items -/
theorem EqsW.turn {xs ys : List V} {its its2 : List Value} {A : Around} {pins : List (Addr × Obj)} {E : Value → Shared → Prop} (T : EqsW X σ π H0 n xs ys) (hr : Room (n + 1) A) (hf : A.frames = some X.stack) (r : Vals xs its) (r2 : Vals ys its2) (i : Nat) (b1 : i < its.toArray.size) (b2 : i < its2.toArray.size) (s : Shared) (G : Goes X σ π H0 pins s) :
    wpAny (model X.prog X.w) A.in1 (eqBool its.toArray[i] its2.toArray[i]) (fun r s' => r = true ∧ Goes X σ π H0 pins s') E s := by
  have c1 : i < its.length := by simpa using b1
  have c2 : i < its2.length := by simpa using b2
  have k1 : i < xs.length := by rw [r.length]; exact c1
  have k2 : i < ys.length := by rw [r2.length]; exact c2
  obtain ⟨u, hu, ru⟩ := r.get (List.getElem?_eq_getElem k1)
  obtain ⟨v, hv, rv⟩ := r2.get (List.getElem?_eq_getElem k2)
  have e1 : its.toArray[i] = u := by
    have z : its[i]? = some its[i] := List.getElem?_eq_getElem c1
    rw [z] at hu
    simpa using Option.some.inj hu
  have e2 : its2.toArray[i] = v := by
    have z : its2[i]? = some its2[i] := List.getElem?_eq_getElem c2
    rw [z] at hv
    simpa using Option.some.inj hv
  rw [e1, e2]
  exact T.2 i _ _ (List.getElem?_eq_getElem k1) (List.getElem?_eq_getElem k2) u v ru rv A.in1 pins s E _ hr.in1 hf G fun s' G' => ⟨rfl, G'⟩
theorem listI_of {a b : Addr} {xs ys : List V} {A : Around} {pins : List (Addr × Obj)} {E : Value → Shared → Prop} (ha : H0 a = some (.lst xs)) (hap : a ≠ π) (hb : H0 b = some (.lst ys)) (hbp : b ≠ π) (T : EqsW X σ π H0 n xs ys) (hr : Room (n + 1) A) (hf : A.frames = some X.stack) :
    GQ.ListI X.prog X.w A E a b xs.length fun _ s => Goes X σ π H0 pins s := fun i s G => by
  obtain ⟨H, I, e⟩ := id G
  obtain ⟨z, its, m, r, g⟩ := I.hok a _ (e.kp a _ hap ha)
  obtain ⟨z2, its2, m2, r2, g2⟩ := I.hok b _ (e.kp b _ hbp hb)
  exact ⟨its.toArray, its2.toArray, m, m2, g, g2, by rw [List.size_toArray, ← r.length], by rw [List.size_toArray, ← r2.length, ← T.1], fun b1 b2 => T.turn hr hf r r2 i b1 b2 s G⟩
theorem RcW.list {a b : Addr} {xs ys : List V} (ha : H0 a = some (.lst xs)) (hap : a ≠ π) (hb : H0 b = some (.lst ys)) (hbp : b ≠ π) (T : EqsW X σ π H0 n xs ys) : RcW X σ π H0 (n + 1) .Eq true (.ref a) (.ref b) := fun A pins s E Q hr hf G hQ =>
  GQ.rc_listG (N := xs.length) (Nat.lt_of_succ_lt (room_units hr)) (fun _ s => Goes X σ π H0 pins s) (listI_of ha hap hb hbp T hr hf) (fun s' G' => hQ s' G') G
theorem RcW.listN {a b : Addr} {xs ys : List V} (ha : H0 a = some (.lst xs)) (hap : a ≠ π) (hb : H0 b = some (.lst ys)) (hbp : b ≠ π) (T : EqsW X σ π H0 n xs ys) : RcW X σ π H0 (n + 1) .NotEq false (.ref a) (.ref b) := fun A pins s E Q hr hf G hQ =>
  rcn_lists (N := xs.length) (Nat.lt_of_succ_lt (room_units hr)) (fun _ s => Goes X σ π H0 pins s) (listI_of ha hap hb hbp T hr hf) (fun s' G' => hQ s' G') G
theorem RcW.tup {a b : Addr} {xs ys : List V} (hS : ∀ H, Ex π H0 H → SqT X.K H a xs) (hS2 : ∀ H, Ex π H0 H → SqT X.K H b ys) (T : EqsW X σ π H0 n xs ys) : RcW X σ π H0 (n + 1) .Eq true (.ref a) (.ref b) := fun A pins s E Q hr hf G hQ => by
  obtain ⟨H, I, e⟩ := id G
  obtain ⟨its, r, g, _⟩ := I.tuple (hS H e)
  obtain ⟨its2, r2, g2, _⟩ := I.tuple (hS2 H e)
  have hz : its.toArray.size = its2.toArray.size := by rw [List.size_toArray, List.size_toArray, ← r.length, ← r2.length]; exact T.1
  exact GQ.rc_tupG hz (Nat.lt_of_succ_lt (room_units hr)) (fun _ s => Goes X σ π H0 pins s) g g2 (fun i b1 b2 s' G' => T.turn hr hf r r2 i b1 b2 s' G') (fun s' G' => hQ s' G') G
theorem RcW.tupN {a b : Addr} {xs ys : List V} (hS : ∀ H, Ex π H0 H → SqT X.K H a xs) (hS2 : ∀ H, Ex π H0 H → SqT X.K H b ys) (T : EqsW X σ π H0 n xs ys) : RcW X σ π H0 (n + 1) .NotEq false (.ref a) (.ref b) := fun A pins s E Q hr hf G hQ => by
  obtain ⟨H, I, e⟩ := id G
  obtain ⟨its, r, g, _⟩ := I.tuple (hS H e)
  obtain ⟨its2, r2, g2, _⟩ := I.tuple (hS2 H e)
  have hz : its.toArray.size = its2.toArray.size := by rw [List.size_toArray, List.size_toArray, ← r.length, ← r2.length]; exact T.1
  exact rcn_tups hz (Nat.lt_of_succ_lt (room_units hr)) (fun _ s => Goes X σ π H0 pins s) g g2 (fun i b1 b2 s' G' => T.turn hr hf r r2 i b1 b2 s' G') (fun s' G' => hQ s' G') G
/-- two instances, by their own == -/
theorem RcW.own {k : Nat} {C f a b dx dy : Addr} {fd : FuncData} {ps : List Str} {F : List D → T D} {fv gv : List (Str × V)} {N : Addr → Bool} {d d' : D} (O : CmpOwn X.K C .Eq f) (G : FnOk X.prog X.w X.K X.mg X.base CX0 k f fd ps (spD X.K X.prog X.w 2 F)) (hb : Binds X.K fd ps [])
    (hn : HN π N H0) (ha : H0 a = some (.ins C dx fv)) (hap : a ≠ π) (hb2 : H0 b = some (.ins C dy gv)) (hbp : b ≠ π) (r : Rv X.K X.prog X.w π (Hide N H0) (.ref a) d) (r2 : Rv X.K X.prog X.w π (Hide N H0) (.ref b) d') (hF : F [d, d'] = .ret (.bl true)) : RcW X σ π H0 k .Eq true (.ref a) (.ref b) := fun A pins s E Q hr hf ⟨H, I, e⟩ hQ => by
  obtain ⟨mA, M, _, _, _, _⟩ := ins_get I.hok (e.kp a _ hap ha)
  obtain ⟨mB, M2, _, _, _, _⟩ := ins_get I.hok (e.kp b _ hbp hb2)
  obtain ⟨od, J, _⟩ := M.look
  obtain ⟨od2, J2, _⟩ := M2.look
  obtain ⟨m, Fr0⟩ := I.fr
  have q1 : Rv X.K X.prog X.w π (Hide N H) (.ref a) d := r.mono e.kp.hide
  have q2 : Rv X.K X.prog X.w π (Hide N H) (.ref b) d' := r2.mono e.kp.hide
  have sp : ∀ (Q : VK) (E : XK), (∀ v H2, v = .bl true → Ex π H0 H2 → Q v H2) → spD X.K X.prog X.w 2 F [.ref a, .ref b] H Q E := fun Q E h => ⟨π, N, [d, d'], hn.ext e, .cons q1 (.cons q2 .nil), rfl, by rw [hF]; exact fun v H' e2 rv => h v H' (by cases rv; rfl) (e.trans e2)⟩
  refine PySem.W.cmp_K (Nat.lt_of_succ_lt (room_units hr)) Fr0 I.ok.mod.kin J J2.type O.self O.at_ O.fn ?_
  refine wpAny_call (codeAny_mono (G.run A X.stack s H ⟨[.ref a, .ref b], []⟩ [.ref a, .ref b] [.ref a, .ref b] (fun v H2 => v = .bl true ∧ Ex π H0 H2) E0 hr { I.env0 with frames := hf } (hb s [.ref a, .ref b] I.kIn (G.len _ H (fun _ _ => True) E0 (sp _ _ fun _ _ _ _ => trivial))) (.cons rfl (.cons rfl .nil)) (sp _ _ fun v H2 z1 z2 => ⟨z1, z2⟩)) fun r s' hq => ?_)
  cases r with
  | error er => exact hq.elim
  | ok fl =>
    cases fl with
    | ret u =>
      obtain ⟨v, H', I3, rv, ev, q⟩ := I.after hq
      subst ev
      cases rv
      exact hQ s' ⟨H', I3, q⟩
    | next => exact False.elim hq
    | brk => exact False.elim hq
    | cont => exact False.elim hq
end
end Pd

/-! == and != of data that hold instances: where they are alike. -/
namespace Pd
open PySem L2 PySem.Spec PyProof.Rows
mutual
/-- alike; E: two instances -/
def D.same (E : D → D → Bool) : D → D → Bool
  | .non, d => match d with
    | .non => true
    | _ => false
  | .bl a, d => match d with
    | .bl b => a == b
    | _ => false
  | .int a, d => match d with
    | .int b => a == b
    | _ => false
  | .str a, d => match d with
    | .str b => a == b
    | _ => false
  | .tup xs, d => match d with
    | .tup ys => D.sames E xs ys
    | _ => false
  | .lst xs, d => match d with
    | .lst ys => D.sames E xs ys
    | _ => false
  | .ins c fs, d => match d with
    | .ins c2 gs => E (.ins c fs) (.ins c2 gs)
    | _ => false
  | .dic _, _ => false
  | .pot, _ => false
def D.sames (E : D → D → Bool) : List D → List D → Bool
  | [], ys => ys.isEmpty
  | x :: xs, ys => match ys with
    | y :: ys => D.same E x y && D.sames E xs ys
    | [] => false
end
/-- two instances by their class's own == (no own !=) -/
def SameOk (X : Cx) (k : Nat) (E : D → D → Bool) : Prop := ∀ (c c2 : Str) (fs gs : List (Str × D)), E (.ins c fs) (.ins c2 gs) = true → ∃ (C f : Addr) (fd : FuncData) (ps : List Str) (F : List D → T D), ClsAt X.K c C ∧ ClsAt X.K c2 C ∧ CmpOwn X.K C .Eq f ∧ FnOk X.prog X.w X.K X.mg X.base CX0 k f fd ps (spD X.K X.prog X.w 2 F) ∧ Binds X.K fd ps [] ∧ F [.ins c fs, .ins c2 gs] = .ret (.bl true) ∧
  PySem.W.findIn X.K (.ref C) "__ne__" = some (some (.builtin "object.__ne__")) ∧ PySem.W.mroIn X.K C (.type "object") = some true
section
variable {X : Cx} {σ : L2.St} {π : Addr} {H0 : Hp} {N : Addr → Bool} {n k : Nat} {E : D → D → Bool}
theorem tup_ex {v : V} {ds : List D} (r : Rv X.K X.prog X.w π (Hide N H0) v (.tup ds)) : ∃ a vs, v = .ref a ∧ (∀ H, Ex π H0 H → SqT X.K H a vs) ∧ RvL X.K X.prog X.w π (Hide N H0) vs ds := by
  cases r with
  | tup e n l => exact ⟨_, _, rfl, fun H x => .of (x.kp _ _ n (hide_some e).2), l⟩
  | tupK e l => exact ⟨_, _, rfl, fun H _ => e H, l⟩
theorem same_ins (hE : SameOk X k E) (hn : HN π N H0) {c c2 : Str} {fs gs : List (Str × D)} {v v2 : V} (h : E (.ins c fs) (.ins c2 gs) = true) (r : Rv X.K X.prog X.w π (Hide N H0) v (.ins c fs)) (r2 : Rv X.K X.prog X.w π (Hide N H0) v2 (.ins c2 gs)) : ∃ a b, v = .ref a ∧ v2 = .ref b ∧ RcW X σ π H0 k .Eq true (.ref a) (.ref b) := by
  obtain ⟨C, f, fd, ps, F, at1, at2, O, G, B, hF, _, _⟩ := hE c c2 fs gs h
  have r0 := r
  have r02 := r2
  cases r with
  | ins hc e n _ => cases r2 with
    | ins hc2 e2 n2 _ =>
      have z1 := at1.one hc
      subst z1
      have z2 := at2.one hc2
      subst z2
      exact ⟨_, _, rfl, rfl, .own O G B hn (hide_some e).2 n (hide_some e2).2 n2 r0 r02 hF⟩
mutual
theorem same_run (hE : SameOk X k E) (hn : HN π N H0) : ∀ {d d2 : D} {v v2 : V}, D.same E d d2 = true → Rv X.K X.prog X.w π (Hide N H0) v d → Rv X.K X.prog X.w π (Hide N H0) v2 d2 → ∀ u u2, RelV v u → RelV v2 u2 → EqW X σ π H0 (k + D.hgt d) u u2
  | .non, d2, v, v2, h, r, r2 => fun u u2 ru ru2 => by
    cases d2 <;> first | (cases h; done) | skip
    cases r; cases r2
    exact .flat ru ru2 rfl rfl rfl
  | .bl a, d2, v, v2, h, r, r2 => fun u u2 ru ru2 => by
    cases d2 <;> first | (cases h; done) | skip
    cases r; cases r2
    exact .flat ru ru2 rfl rfl h
  | .int a, d2, v, v2, h, r, r2 => fun u u2 ru ru2 => by
    cases d2 <;> first | (cases h; done) | skip
    cases r; cases r2
    exact .flat ru ru2 rfl rfl h
  | .str a, d2, v, v2, h, r, r2 => fun u u2 ru ru2 => by
    cases d2 <;> first | (cases h; done) | skip
    cases r; cases r2
    exact .flat ru ru2 rfl rfl h
  | .dic _, d2, v, v2, h, r, r2 => by cases h
  | .pot, d2, v, v2, h, r, r2 => by cases h
  | .ins c fs, d2, v, v2, h, r, r2 => fun u u2 ru ru2 => by
    cases d2 <;> first | (cases h; done) | skip
    obtain ⟨a, b, rfl, rfl, q⟩ := same_ins (σ := σ) hE hn h r r2
    cases ru; cases ru2
    exact q.eq.mono (Nat.le_add_right _ _)
  | .lst xs, d2, v, v2, h, r, r2 => fun u u2 ru ru2 => by
    cases d2 <;> first | (cases h; done) | skip
    cases r with
    | lst e n l => cases r2 with
      | lst e2 n2 l2 =>
        cases ru; cases ru2
        exact (RcW.list (hide_some e).2 n (hide_some e2).2 n2 (sames_run hE hn h l l2)).eq
  | .tup xs, d2, v, v2, h, r, r2 => fun u u2 ru ru2 => by
    cases d2 <;> first | (cases h; done) | skip
    obtain ⟨a, vs, rfl, hS, l⟩ := tup_ex r
    obtain ⟨b, ws, rfl, hS2, l2⟩ := tup_ex r2
    cases ru; cases ru2
    exact (RcW.tup hS hS2 (sames_run hE hn h l l2)).eq
theorem sames_run (hE : SameOk X k E) (hn : HN π N H0) : ∀ {ds ds2 : List D} {vs vs2 : List V}, D.sames E ds ds2 = true → RvL X.K X.prog X.w π (Hide N H0) vs ds → RvL X.K X.prog X.w π (Hide N H0) vs2 ds2 → EqsW X σ π H0 (k + D.hgts ds) vs vs2
  | [], ds2, vs, vs2, h, r, r2 => by
    cases ds2 with
    | nil => cases r; cases r2; exact ⟨rfl, fun i x y z => by simp at z⟩
    | cons _ _ => cases h
  | d :: ds, ds2, vs, vs2, h, r, r2 => by
    cases ds2 with
    | nil => cases h
    | cons d2 ds2 =>
      obtain ⟨h1, h2⟩ := Bool.and_eq_true_iff.mp h
      cases r with
      | cons r l => cases r2 with
        | cons r2 l2 =>
          have T := sames_run hE hn h2 l l2
          refine ⟨congrArg Nat.succ T.1, fun i x y z1 z2 => ?_⟩
          cases i with
          | zero =>
            cases z1; cases z2
            exact fun u u2 ru ru2 => (same_run hE hn h1 r r2 u u2 ru ru2).mono (Nat.add_le_add_left (Nat.le_max_left _ _) k)
          | succ i => exact fun u u2 ru ru2 => (T.2 i x y z1 z2 u u2 ru ru2).mono (Nat.add_le_add_left (Nat.le_max_right _ _) k)
end
end
end Pd

/-! == and != as operators: data alike that hold instances. -/
namespace Pd
open PySem L2 PySem.Spec PyProof.Rows
section
variable {prog : Program} {w : World} {A : Around} {E : Value → Shared → Prop} {s : Shared} {K : PySem.W.Frag} {x y C f : Addr} {ox : Obj} {od : Option Obj}
/-- object's own != of an instance: its ==, turned -/
theorem ne_entry {Q : Fin → Shared → Prop} (hu : A.units < cLine) (X : K.In s.heap) (J : PySem.W.InstAt s.heap x ox C od) (he : PySem.W.findIn K (.ref C) "__eq__" = some (some (.ref f))) (hf : PySem.W.isFn K (.ref f) = true)
    (h : wpAny (model prog w) A (call (.ref f) [.ref x, .ref y]) (fun v s' => ∃ b, v = .bool b ∧ Q (.done (.ret (.bool (!b)))) s') E s) : wpAny (model prog w) A (Builtin.«object.__ne__» ⟨[.ref x, .ref y], []⟩) Q E s := by
  unfold Builtin.«object.__ne__»
  repeat (first
    | with_reducible refine wpAny_cRoomFor hu ?_
    | (refine wpAny_bind (m := callSpecialIfBound? (.ref x) (Str.ofString "__eq__") [.ref y]) (PySem.W.ifBound_K X J he hf (wpAny_mono h (fun r s' z => by
        obtain ⟨b, rfl, q⟩ := z
        repeat (first | exact q | exact wpAny_pure q | exact wpAny_truthy_bool q | (refine wpAny_bind (m := truthy (.bool _)) (wpAny_truthy_bool ?_)) | wp_step)) fun _ _ z => z)))
    | wp_step)
theorem bound_ne {args : List Value} {Q : Option Value → Shared → Prop} {M : Model} (X : K.In s.heap) (J : PySem.W.InstAt s.heap x ox C od) (hs : PySem.W.findIn K (.ref C) "__ne__" = some (some (.builtin "object.__ne__")))
    (h : wpAny M A (call (.builtin "object.__ne__") (.ref x :: args)) (fun v => Q (some v)) E s) : wpAny M A (callSpecialIfBound? (.ref x) "__ne__" args) Q E s := by
  have fin : wpAny M A (call (.builtin "object.__ne__") ([.ref x] ++ args) >>= fun v => pure (some v)) Q E s := wpAny_bind (wpAny_mono h (fun v s' z => wpAny_pure z) fun _ _ z => z)
  simp only [callSpecialIfBound?, bindSpecialIfBound?]
  refine wpAny_holding (wpAny_bind (wpAny_bind (wpAny_bind (J.type.here ((PySem.W.looks_findIn X hs).here ?_)))))
  refine wpAny_bind (wpAny_askSetting (wpAny_ite ?_))
  split
  · exact wpAny_bind (wpAny_of_eq (F.cmp_object.ne.bind _) (wpAny_pure (by exact fin)))
  · exact wpAny_tryCatch (wpAny_bind (wpAny_of_eq (F.cmp_object.ne.bind _) (wpAny_pure (by exact fin))))
theorem rc_neIns {Q : Value → Shared → Prop} {oy : Obj} {ody : Option Obj} (hu : A.units + 1 < cLine) (X : K.In s.heap) (J : PySem.W.InstAt s.heap x ox C od) (J2 : PySem.W.InstAt s.heap y oy C ody) (hm : PySem.W.mroIn K C (.type "object") = some true) (hs : PySem.W.findIn K (.ref C) "__ne__" = some (some (.builtin "object.__ne__")))
    (he : PySem.W.findIn K (.ref C) "__eq__" = some (some (.ref f))) (hf : PySem.W.isFn K (.ref f) = true) (h : wpAny (model prog w) A.in1 (call (.ref f) [.ref x, .ref y]) (fun v s' => ∃ b, v = .bool b ∧ Q (.bool (!b)) s') E s) :
    wpAny (model prog w) A (richCompare .NotEq (.ref x) (.ref y)) Q E s := by
  have one : wpAny (model prog w) A (tryCompare (.ref x) "__ne__" (.ref y)) (fun r s' => ∃ b, r = some (.bool b) ∧ Q (.bool b) s') E s := by
    unfold tryCompare
    refine wpAny_bind (bound_ne X J hs (wpAny_call (codeAny_call_builtin F.cmp_object.ne.plain F.cmpEntry_ne (PySem.W.check_slot F.cmpKind_ne F.cmpSplit_ne (J.type.andThen (PySem.W.looks_mroIn X hm)) (F.cmpArgs_ne _ _) ?_))))
    refine ne_entry (A := A.in1) hu X J he hf (wpAny_mono h (fun v s' z => ?_) fun _ _ z => z)
    obtain ⟨b, rfl, q⟩ := z
    first | exact ⟨b, rfl, wpAny_pure ⟨_, rfl, q⟩⟩ | exact ⟨b, rfl, wpAny_pure (wpAny_pure ⟨_, rfl, q⟩)⟩
  simp only [richCompare, cmpInfo_NotEq, oneThing_ref]
  refine wpAny_holding (wpAny_bind (wpAny_cRoomFor (Nat.lt_of_succ_lt hu) ?_))
  refine wpAny_bind (J.type.here (wpAny_bind (J2.type.here ?_)))
  rw [show (Value.ref C != Value.ref C) = false from by simp]
  simp only [Bool.false_eq_true, if_false]
  refine wpAny_bind (wpAny_pure ?_)
  simp only [Bool.false_eq_true, if_false]
  refine wpAny_bind (m := tryCompare (.ref x) _ (.ref y)) (wpAny_mono one (fun r s1 z => ?_) fun _ _ z => z)
  obtain ⟨b, rfl, q⟩ := z
  exact wpAny_pure q
end
section
variable {X : Cx} {k : Nat} {E : D → D → Bool}
theorem RcW.ownN {σ : L2.St} {π : Addr} {H0 : Hp} {k : Nat} {C f a b dx dy : Addr} {fd : FuncData} {ps : List Str} {F : List D → T D} {fv gv : List (Str × V)} {N : Addr → Bool} {d d' : D} (O : CmpOwn X.K C .Eq f) (G : FnOk X.prog X.w X.K X.mg X.base CX0 k f fd ps (spD X.K X.prog X.w 2 F)) (hb : Binds X.K fd ps []) (hs : PySem.W.findIn X.K (.ref C) "__ne__" = some (some (.builtin "object.__ne__"))) (hm : PySem.W.mroIn X.K C (.type "object") = some true)
    (hn : HN π N H0) (ha : H0 a = some (.ins C dx fv)) (hap : a ≠ π) (hb2 : H0 b = some (.ins C dy gv)) (hbp : b ≠ π) (r : Rv X.K X.prog X.w π (Hide N H0) (.ref a) d) (r2 : Rv X.K X.prog X.w π (Hide N H0) (.ref b) d') (hF : F [d, d'] = .ret (.bl true)) : RcW X σ π H0 (k + 1) .NotEq false (.ref a) (.ref b) := fun A pins s E Q hr hf ⟨H, I, e⟩ hQ => by
  obtain ⟨mA, M, _, _, _, _⟩ := ins_get I.hok (e.kp a _ hap ha)
  obtain ⟨mB, M2, _, _, _, _⟩ := ins_get I.hok (e.kp b _ hbp hb2)
  obtain ⟨od, J, _⟩ := M.look
  obtain ⟨od2, J2, _⟩ := M2.look
  have q1 : Rv X.K X.prog X.w π (Hide N H) (.ref a) d := r.mono e.kp.hide
  have q2 : Rv X.K X.prog X.w π (Hide N H) (.ref b) d' := r2.mono e.kp.hide
  have sp : ∀ (Q : VK) (E : XK), (∀ v H2, v = .bl true → Ex π H0 H2 → Q v H2) → spD X.K X.prog X.w 2 F [.ref a, .ref b] H Q E := fun Q E h => ⟨π, N, [d, d'], hn.ext e, .cons q1 (.cons q2 .nil), rfl, by rw [hF]; exact fun v H' e2 rv => h v H' (by cases rv; rfl) (e.trans e2)⟩
  refine rc_neIns (room_units hr) I.kIn J J2 hm hs O.at_ O.fn ?_
  refine wpAny_call (codeAny_mono (G.run A.in1 X.stack s H ⟨[.ref a, .ref b], []⟩ [.ref a, .ref b] [.ref a, .ref b] (fun v H2 => v = .bl true ∧ Ex π H0 H2) E0 hr.in1 { I.env0 with frames := hf } (hb s [.ref a, .ref b] I.kIn (G.len _ H (fun _ _ => True) E0 (sp _ _ fun _ _ _ _ => trivial))) (.cons rfl (.cons rfl .nil)) (sp _ _ fun v H2 z1 z2 => ⟨z1, z2⟩)) fun r s' hq => ?_)
  cases r with
  | error er => exact hq.elim
  | ok fl =>
    cases fl with
    | ret u =>
      obtain ⟨v, H', I3, rv, ev, q⟩ := I.after hq
      subst ev
      cases rv
      exact ⟨true, rfl, hQ s' ⟨H', I3, q⟩⟩
    | next => exact False.elim hq
    | brk => exact False.elim hq
    | cont => exact False.elim hq
def isBig : D → Bool
  | .tup _ => true
  | .lst _ => true
  | .ins _ _ => true
  | _ => false
/-- x == y, where they are alike -/
def opEqS (E : D → D → Bool) (x y : D) : T D := cond (D.same E x y && isBig x && decide (D.hgt x ≤ 4)) (.ret (.bl true)) .fail
/-- x != y, where they are alike -/
def opNeS (E : D → D → Bool) (x y : D) : T D := cond (D.same E x y && isBig x && decide (D.hgt x ≤ 4)) (.ret (.bl false)) .fail
theorem big_run {σ : L2.St} {π : Addr} {H0 : Hp} {N : Addr → Bool} (hE : SameOk X k E) (hn : HN π N H0) {d d2 : D} {v v2 : V} (h : D.same E d d2 = true) (hb : isBig d = true) (r : Rv X.K X.prog X.w π (Hide N H0) v d) (r2 : Rv X.K X.prog X.w π (Hide N H0) v2 d2) :
    ∃ a b, v = .ref a ∧ v2 = .ref b ∧ RcW X σ π H0 (k + D.hgt d + 1) .Eq true (.ref a) (.ref b) ∧ RcW X σ π H0 (k + D.hgt d + 1) .NotEq false (.ref a) (.ref b) := by
  have up : ∀ {m n : Nat} {op : CmpOp} {b : Bool} {u w : Value}, RcW X σ π H0 m op b u w → m ≤ n → RcW X σ π H0 n op b u w := fun h l A pins s E Q hr => h A pins s E Q (hr.mono l)
  cases d with
  | lst xs =>
    cases d2 <;> first | (cases h; done) | skip
    cases r with
    | lst e n l => cases r2 with
      | lst e2 n2 l2 =>
        have T := sames_run (σ := σ) hE hn h l l2
        exact ⟨_, _, rfl, rfl, up (.list (hide_some e).2 n (hide_some e2).2 n2 T) (Nat.le_succ _), up (.listN (hide_some e).2 n (hide_some e2).2 n2 T) (Nat.le_succ _)⟩
  | tup xs =>
    cases d2 <;> first | (cases h; done) | skip
    obtain ⟨a, vs, rfl, hS, l⟩ := tup_ex r
    obtain ⟨b, ws, rfl, hS2, l2⟩ := tup_ex r2
    have T := sames_run (σ := σ) hE hn h l l2
    exact ⟨_, _, rfl, rfl, up (.tup hS hS2 T) (Nat.le_succ _), up (.tupN hS hS2 T) (Nat.le_succ _)⟩
  | ins c fs =>
    cases d2 <;> first | (cases h; done) | skip
    obtain ⟨C, f, fd, ps, F, at1, at2, O, G, B, hF, hne, hm⟩ := hE _ _ _ _ h
    have r0 := r
    have r02 := r2
    cases r with
    | ins hc e n _ => cases r2 with
      | ins hc2 e2 n2 _ =>
        have z1 := at1.one hc
        subst z1
        have z2 := at2.one hc2
        subst z2
        exact ⟨_, _, rfl, rfl, up (.own O G B hn (hide_some e).2 n (hide_some e2).2 n2 r0 r02 hF) (Nat.le_succ _), .ownN O G B hne hm hn (hide_some e).2 n (hide_some e2).2 n2 r0 r02 hF⟩
  | _ => cases hb
theorem os_S {op : CmpOp} {c : Bool} (hop : (op = .Eq ∧ c = true) ∨ (op = .NotEq ∧ c = false)) (hE : SameOk X k E) (hr : Room (k + 5) X.A) : OpSnd X (compareOp op) fun x y => cond (D.same E x y && isBig x && decide (D.hgt x ≤ 4)) (.ret (.bl c)) .fail := fun {π N H x y dx dy Q} hn rx ry h => by
  obtain ⟨hb, h⟩ := cond_all h
  simp only [Bool.and_eq_true, decide_eq_true_eq] at hb
  obtain ⟨⟨b1, b2⟩, b3⟩ := hb
  refine ⟨fun x' y' H' Q => x' = x ∧ y' = y ∧ H' = H ∧ ∀ H2, Ex π H H2 → Q (.bl c) H2, ?_, rfl, rfl, rfl, fun H2 e => h _ _ e (.bl c)⟩
  intro pins s σ H1 x' y' v u Q I r1 r2 q
  obtain ⟨rfl, rfl, rfl, hq⟩ := q
  obtain ⟨a, b, rfl, rfl, t1, t2⟩ := big_run (σ := σ) hE hn b1 b2 rx ry
  cases r1
  cases r2
  have room : Room (k + D.hgt dx + 1) X.A := hr.mono (by omega)
  have G : Goes X σ π H1 pins s := ⟨H1, I, Ex.refl hn.pot⟩
  rcases hop with ⟨rfl, rfl⟩ | ⟨rfl, rfl⟩
  · exact t1 X.A pins s _ _ room I.env0.frames G fun s' ⟨H', I', e'⟩ => ⟨.bl true, H', I', rfl, hq _ e'⟩
  · exact t2 X.A pins s _ _ room I.env0.frames G fun s' ⟨H', I', e'⟩ => ⟨.bl false, H', I', rfl, hq _ e'⟩
theorem os_eqS (hE : SameOk X k E) (hr : Room (k + 5) X.A) : OpSnd X (compareOp .Eq) (opEqS E) := os_S (.inl ⟨rfl, rfl⟩) hE hr
theorem os_neS (hE : SameOk X k E) (hr : Room (k + 5) X.A) : OpSnd X (compareOp .NotEq) (opNeS E) := os_S (.inr ⟨rfl, rfl⟩) hE hr
end
end Pd

/-! a <= b <= c; what a law's text asks of Ratio. -/
namespace Pd
open PySem L2 PySem.Spec PyProof.Rows
def eChain (f g : D → D → T D) (ma mb mc : Rho → T D) : Rho → T D := fun ρ => (ma ρ).bind fun x => (mb ρ).bind fun y => (f x y).bind fun b => (asB b).bind fun b => cond b ((mc ρ).bind fun z => g y z) (.ret (.bl false))
section
variable {X : Cx} {a b c : Expr} {ma mb mc : Rho → T D} {pos : Pos}
theorem s_chain {op op2 : CmpOp} {f g : D → D → T D} (ho : OpSnd X (compareOp op) f) (ho2 : OpSnd X (compareOp op2) g) (ha : Snd X a ma) (hb : Snd X b mb) (hc : Snd X c mc) (hm : lastMarks [op, op2] [b, c] = false := by with_unfolding_all rfl) : Snd X (.Compare a [op, op2] [b, c] pos) (eChain f g ma mb mc) :=
  fun {π N0 H0 N H σ ρ Q} I h => ⟨_, pe_chain op_wp op_wp pe_wp pe_wp pe_wp hm, by
    refine ha I (T.all_mono (fun dx hx => ?_) (T.all_bind.mp h))
    intro v H1 e1 r1
    refine hb (I.ext e1) (T.all_mono (fun dy hy => ?_) (T.all_bind.mp hx))
    intro u H2 e2 r2
    have I2 := (I.ext e1).ext e2
    refine ho I2.hn (r1.mono e2.kp.hide) r2 (T.all_mono (fun dk hk => ?_) (T.all_bind.mp hy))
    intro t H3 e3 r3
    obtain ⟨k, rfl, hk⟩ := asB_all (T.all_bind.mp hk)
    refine ⟨k, r3.bool, ?_⟩
    cases k with
    | true =>
      refine hc (I2.ext e3) (T.all_mono (fun dz hz => ?_) (T.all_bind.mp hk))
      intro s H4 e4 r4
      exact ho2 ((I2.ext e3).ext e4).hn (r2.mono (e3.trans e4).kp.hide) r4 (T.all_mono (fun d hd v' H5 e5 r5 => hd v' H5 (e1.trans (e2.trans (e3.trans (e4.trans e5)))) r5) hz)
    | false => exact hk (.bl false) H3 (e1.trans (e2.trans e3)) (.bl false)⟩
end
/-- a, xs = value, a new list -/
def sParO (i j : Nat) (ma : Rho → T D) (ml : Rho → T (List D)) : Rho → T Out := fun ρ => (ma ρ).bind fun x => (ml ρ).bind fun ds => .ret (.nx ((ρ.set i (.val x)).set j (.own ds)))
section
variable {X : Cx} {a b : Expr} {ma : Rho → T D} {ml : Rho → T (List D)} {pos : Pos}
theorem ss_parO {i j : Nat} {x y : Str} {px py pt : Pos} {kt k2 pt2} (hc : X.calm = true) (hN : X.N.Nodup) (ha : Snd X a ma) (hb : SndL X b ml) (hij : i ≠ j := by decide) (hi : X.N[i]? = some x := by rfl) (hj : X.N[j]? = some y := by rfl)
    (hx : X.env.scope.names.lookup x = some .local := by rfl) (hy : X.env.scope.names.lookup y = some .local := by rfl)
    (hw : swappedStores [.Tuple [.Name x px, .Name y py] kt pt] (.Tuple [a, b] k2 pt2) X.env = pure (some [x, y]) := by rfl)
    (hs : swapsWithSole [.Tuple [.Name x px, .Name y py] kt pt] (.Tuple [a, b] k2 pt2) pos.line X.env = pure false := by rfl) (he : starEach [a, b] X.env = (false, eval a X.env) :: starEach [b] X.env := by rfl) (he2 : starEach [b] X.env = (false, eval b X.env) :: starEach [] X.env := by rfl) :
    SndS X (.Assign [.Tuple [.Name x px, .Name y py] kt pt] (.Tuple [a, b] k2 pt2) pos) (sParO i j ma ml) := fun {π N0 H0 N H σ ρ De} I h => ⟨_, ps_par hc hN hi hj hij hx hy (pa_cons pe_wp (pa_cons pe_wp pa_nil he2) he) hw hs, by
  refine ha I (T.all_mono (fun d hd => ?_) (T.all_bind.mp h))
  intro v H1 e1 r1
  refine hb (I.ext e1) (T.all_mono (fun ds hds => ?_) (T.all_bind.mp hd))
  intro l vs H2 e2 hl h2 r
  exact ⟨v, .ref l, rfl, hds _ _ _ (((I.ext e1).set r1).newOwn e2 hl h2 ⟨vs, rfl, r⟩)⟩⟩
end
/-- == and != : texts and numbers by themselves, all else as data -/
def opEqF : D → D → T D
  | .str x, .str y => .ret (.bl (decide (x = y)))
  | .int i, .int j => .ret (.bl (decide (i = j)))
  | x, y => opEq x y
def opNeF : D → D → T D
  | .str x, .str y => .ret (.bl (!decide (x = y)))
  | .int i, .int j => .ret (.bl (!decide (i = j)))
  | x, y => opNe x y
section
variable {X : Cx}
theorem dec_V_str {x y : Str} : decide (V.str x = V.str y) = decide (x = y) := by
  rw [Bool.eq_iff_iff]
  simp
theorem dec_V_int {x y : Int} : decide (V.int x = V.int y) = decide (x = y) := by
  rw [Bool.eq_iff_iff]
  simp
theorem os_eqF (hu : X.A.units + 64 < cLine) : OpSnd X (compareOp .Eq) opEqF := fun {π N H x y dx dy Q} hn rx ry h => by
  unfold opEqF at h
  split at h
  · cases rx; cases ry
    exact ⟨_, L2.op_eq, rfl, by rw [dec_V_str]; exact h _ _ (Ex.refl hn.pot) (.bl _)⟩
  · cases rx; cases ry
    exact ⟨_, L2.op_eq, rfl, by rw [dec_V_int]; exact h _ _ (Ex.refl hn.pot) (.bl _)⟩
  · exact os_eq hu hn rx ry h
theorem os_neF (hu : X.A.units + 64 < cLine) : OpSnd X (compareOp .NotEq) opNeF := fun {π N H x y dx dy Q} hn rx ry h => by
  unfold opNeF at h
  split at h
  · cases rx; cases ry
    exact ⟨_, L2.op_ne, rfl, by rw [dec_V_str]; exact h _ _ (Ex.refl hn.pot) (.bl _)⟩
  · cases rx; cases ry
    exact ⟨_, L2.op_ne, rfl, by rw [dec_V_int]; exact h _ _ (Ex.refl hn.pot) (.bl _)⟩
  · exact os_ne hu hn rx ry h
end
/-- an instance's text by its own method, ahead of a body -/
def TxP (P : Program) (w : World) (K : PySem.W.Frag) (mg : Str → Option Value) (base : Heap) (k : Nat) (R : D → Option Str) : Prop := ∀ (c : Str) (fs : List (Str × D)) (t : Str), R (.ins c fs) = some t → ∃ (C f : Addr) (fd : FuncData) (ps : List Str) (F : List D → T D), ClsAt K c C ∧ OwnTxt K C "__repr__" f ∧ FnOk P w K mg base CX0 k f fd ps (spD K P w 1 F) ∧ Binds K fd ps [] ∧ F [.ins c fs] = .ret (.str t)
theorem TxP.ok {X : Cx} {k : Nat} {R : D → Option Str} (h : TxP X.prog X.w X.K X.mg X.base k R) : TxOk X k R := h
/-- the text of one class's instances -/
def rOne (c0 : Str) (F : List D → T D) : D → Option Str
  | .ins c fs => cond (c == c0) (match F [.ins c fs] with
    | .ret (.str t) => some t
    | _ => none) none
  | _ => none
theorem TxP.of {P : Program} {w : World} {K : PySem.W.Frag} {mg : Str → Option Value} {base : Heap} {k : Nat} {c0 : Str} {F : List D → T D} (h : PmT P w K mg base c0 "__repr__" k F) : TxP P w K mg base k (rOne c0 F) := fun c fs t ht => by
  obtain ⟨C, f, fd, ps, at_, O, G, B⟩ := h
  unfold rOne at ht
  dsimp only at ht
  cases e : c == c0 with
  | false => rw [e] at ht; cases ht
  | true =>
    rw [e] at ht
    have ec : c = c0 := by simpa using e
    subst ec
    refine ⟨C, f, fd, ps, F, at_, O, G, B, ?_⟩
    dsimp only [cond] at ht
    split at ht
    · rename_i z
      cases ht
      exact z
    · cases ht
end Pd

/-! Values: texts of bounded length; loops and comprehensions by what each turn gives. -/
namespace Pd
open PySem L2 PySem.Spec PyProof.Rows
theorem tupleText_le (ts : List Str) : (tupleText ts).length ≤ piled ts + 2 := by
  unfold tupleText
  rw [strLen_append, strLen_append]
  have e1 : ((("(" : String) : Str)).length = 1 := rfl
  have e3 : (((if ts.length == 1 then ",)" else ")" : String) : Str)).length ≤ 2 := by split <;> decide
  cases ts with
  | nil =>
    have e4 : (Str.join ", " []).length = 0 := rfl
    have e5 : (((if ([] : List Str).length == 1 then ",)" else ")" : String) : Str)).length = 1 := rfl
    rw [e1, e4, e5, piled_nil]
    decide
  | cons t ts =>
    have := join_length_add (t :: ts) (by simp)
    omega
theorem listText_le (ts : List Str) : (listText ts).length ≤ piled ts + 2 := by
  unfold listText
  rw [strLen_append]
  have e2 : ((("]" : String) : Str)).length = 1 := rfl
  have e1 : ((("[" : String) : Str)).length = 1 := rfl
  cases ts with
  | nil => rw [e2]; show 1 + 1 ≤ _; rw [piled_nil]; decide
  | cons t ts =>
    have h : textFrom 0 "[" (t :: ts) = textFrom 1 (("[" : Str) ++ ("" : String) ++ t) ts := rfl
    rw [h, textFrom_length_pos _ _ _ (by decide), strLen_append, strLen_append, e1, e2, piled_cons]
    have e0 : ((("" : String) : Str)).length = 0 := rfl
    omega
/-- the text of v stands, is no longer than n; v is no deeper than h -/
def GT (R : D → Option Str) (h n : Nat) (v : D) : Prop := ∃ t, D.tx R v = some t ∧ t.length ≤ n ∧ D.hgt v ≤ h
theorem GT.mono {R : D → Option Str} {h n h2 n2 : Nat} {v : D} (g : GT R h n v) (a : h ≤ h2) (b : n ≤ n2) : GT R h2 n2 v := let ⟨t, x, y, z⟩ := g; ⟨t, x, Nat.le_trans y b, Nat.le_trans z a⟩
theorem GTs {R : D → Option Str} {h n : Nat} : ∀ {ds : List D}, (∀ d ∈ ds, GT R h n d) → ∃ ts, D.txs R ds = some ts ∧ piled ts ≤ ds.length * (n + 2) ∧ D.hgts ds ≤ h
  | [], _ => ⟨[], rfl, by simp [piled_nil], Nat.zero_le _⟩
  | d :: ds, g => by
    obtain ⟨t, x, y, z⟩ := g d (List.mem_cons_self ..)
    obtain ⟨ts, xs, ys, zs⟩ := GTs (ds := ds) fun e he => g e (List.mem_cons_of_mem _ he)
    refine ⟨t :: ts, ?_, ?_, Nat.max_le.mpr ⟨z, zs⟩⟩
    · unfold D.txs
      rw [x, xs]
    · rw [piled_cons, List.length_cons, Nat.succ_mul]
      omega
theorem GT.tup {R : D → Option Str} {h n : Nat} {ds : List D} (g : ∀ d ∈ ds, GT R h n d) : GT R (h + 1) (ds.length * (n + 2) + 2) (.tup ds) := by
  obtain ⟨ts, x, y, z⟩ := GTs g
  refine ⟨tupleText ts, ?_, Nat.le_trans (tupleText_le ts) (by omega), Nat.succ_le_succ z⟩
  unfold D.tx
  rw [x]
theorem GT.lst {R : D → Option Str} {h n : Nat} {ds : List D} (g : ∀ d ∈ ds, GT R h n d) : GT R (h + 1) (ds.length * (n + 2) + 2) (.lst ds) := by
  obtain ⟨ts, x, y, z⟩ := GTs g
  refine ⟨listText ts, ?_, Nat.le_trans (listText_le ts) (by omega), Nat.succ_le_succ z⟩
  unfold D.tx
  rw [x]
theorem txs_len {R : D → Option Str} : ∀ {ds : List D} {ts : List Str}, D.txs R ds = some ts → 2 * ds.length ≤ piled ts
  | [], ts, h => by cases h; simp
  | d :: ds, ts, h => by
    obtain ⟨t, us, rfl, _, h2⟩ := txs_cons h
    have := txs_len h2
    rw [piled_cons, List.length_cons]
    omega
theorem repr_val {R : D → Option Str} {h n : Nat} {v : D} (g : GT R h n v) (a : h ≤ 6) (b : n ≤ 100000) : ∃ t, bReprR R [v] = .ret (.str t) ∧ t.length ≤ 100000 := by
  obtain ⟨t, x, y, z⟩ := g
  refine ⟨t, ?_, Nat.le_trans y b⟩
  unfold bReprR
  dsimp only
  rw [x]
  dsimp only
  rw [decide_eq_true (Nat.le_trans z a), decide_eq_true (Nat.le_trans y b)]
  rfl
/-! comprehensions -/
theorem compT_map {i : Nat} {me : Rho → T D} {ρ : Rho} {f : D → D} : ∀ {ds acc : List D}, acc.length + ds.length ≤ 100000 → (∀ d ∈ ds, me (ρ.set i (.val d)) = .ret (f d)) → compT (gNm i) yesT me ρ ds acc = .ret (acc ++ ds.map f)
  | [], acc, _, _ => by unfold compT; simp
  | d :: ds, acc, hl, h => by
    have c : small acc = true := decide_eq_true (by rw [List.length_cons] at hl; omega)
    have e : compT (gNm i) yesT me ρ (d :: ds) acc = (me (ρ.set i (.val d))).bind fun y => cond (small acc) (compT (gNm i) yesT me ρ ds (acc ++ [y])) .fail := rfl
    rw [e, h d (List.mem_cons_self ..)]
    show cond (small acc) _ _ = _
    rw [c]
    show compT (gNm i) yesT me ρ ds (acc ++ [f d]) = _
    rw [compT_map (by rw [List.length_append, List.length_cons, List.length_nil]; rw [List.length_cons] at hl; omega) fun e he => h e (List.mem_cons_of_mem _ he)]
    rw [List.append_assoc]
    rfl
theorem bools_map {p : D → Bool} : ∀ ds : List D, bools (ds.map fun d => .bl (p d)) = some (ds.map p)
  | [] => rfl
  | d :: ds => by
    show (match bools (ds.map fun d => .bl (p d)) with | some bs => some (p d :: bs) | none => none) = _
    rw [bools_map ds]
    rfl
theorem all_val {p : D → Bool} (ds : List D) : bAll [.lst (ds.map fun d => .bl (p d))] = .ret (.bl (ds.all p)) := by
  unfold bAll
  dsimp only
  rw [bools_map]
  dsimp only
  rw [List.all_map]
  rfl
/-! loops -/
/-- each turn keeps P -/
theorem for_inv {body : D → Rho → T Out} {P : Nat → Rho → Prop} : ∀ {ds : List D} {k : Nat} {ρ : Rho}, P k ρ → (∀ (i : Nat) (d : D) (ρ : Rho), k ≤ i → ds[i - k]? = some d → P i ρ → (body d ρ).all fun o => ∃ ρ', o = .nx ρ' ∧ P (i + 1) ρ') → (forT body ds ρ).all fun o => ∃ ρ', o = .nx ρ' ∧ P (k + ds.length) ρ'
  | [], k, ρ, h, _ => ⟨ρ, rfl, h⟩
  | d :: ds, k, ρ, h, step => by
    refine T.all_bind.mpr (T.all_mono (fun o ho => ?_) (step k d ρ (Nat.le_refl _) (by rw [Nat.sub_self]; rfl) h))
    obtain ⟨ρ', rfl, h'⟩ := ho
    show T.all _ (forT body ds ρ')
    have q := for_inv (body := body) (P := P) (ds := ds) (k := k + 1) h' fun i d ρ hi hd hp => step i d ρ (by omega) (by
      have e : i - k = (i - (k + 1)) + 1 := by omega
      rw [e, List.getElem?_cons_succ]
      exact hd) hp
    rw [show k + (d :: ds).length = k + 1 + ds.length by rw [List.length_cons]; omega]
    exact q
theorem seq_nx {m1 m2 : Rho → T Out} {ρ : Rho} {P : Out → Prop} (h : (m1 ρ).all fun o => ∃ ρ', o = .nx ρ' ∧ (m2 ρ').all P) : (bSeq m1 m2 ρ).all P :=
  T.all_bind.mpr (T.all_mono (fun o ho => by obtain ⟨ρ', rfl, h⟩ := ho; exact h) h)
end Pd

/-! zip of a tuple and a list: a zip over any two feeds. -/
namespace Pd
open PySem L2 PySem.Spec PyProof.Rows
/-- something that is fed item by item: an iterator over what stands at another place -/
structure Feed (at_ : Heap → Addr → Addr → Nat → Prop) (has : Heap → Addr → Array Value → Prop) : Prop where
  keep : ∀ {h h' : Heap} {c it l : Addr} {i : Nat}, at_ h it l i → Heap.ExtBut c h h' → it ≠ c → at_ h' it l i
  hold : ∀ {h h' : Heap} {c l : Addr} {xs : Array Value}, has h l xs → Heap.ExtBut c h h' → l ≠ c → has h' l xs
  obj : ∀ {h : Heap} {it l : Addr} {i : Nat}, at_ h it l i → ∃ o, h.get? it = some o ∧ ∀ v, o.data ≠ .cell v
  same : ∀ {h h' : Heap} {it l : Addr} {i : Nat}, at_ h it l i → (∀ o, h.get? it = some o → h'.get? it = some o) → at_ h' it l i
  item : ∀ {prog : Program} {w : World} {A : Around} {E : Value → Shared → Prop} {s : Shared} {it l : Addr} {i : Nat} {xs : Array Value} {x : Value} {Q : Value → Shared → Prop}, at_ s.heap it l i → has s.heap l xs → xs[i]? = some x →
    (∀ h', at_ h' it l (i + 1) → Heap.SameBut it s.heap h' → Q x { s with heap := h' }) → wpAny (model prog w) A (Builtin.SmallTypes.nextOf (.ref it)) Q E s
  last : ∀ {prog : Program} {w : World} {A : Around} {E : Value → Shared → Prop} {s : Shared} {it l : Addr} {i : Nat} {xs : Array Value} {Q : Value → Shared → Prop}, A.handled = none → at_ s.heap it l i → has s.heap l xs → xs[i]? = none →
    (∀ h' e, Heap.ExtBut it s.heap h' → (∃ o, h'.get? e = some o ∧ o.cls = .type "StopIteration") → E (.ref e) { s with heap := h' }) → wpAny (model prog w) A (Builtin.SmallTypes.nextOf (.ref it)) Q E s
theorem feedT : Feed Heap.IsTupleIter Heap.IsTuple where
  keep a e n := a.extBut e n
  hold a e n := a.extBut e n
  obj a := let ⟨o, e, _, d⟩ := a; ⟨o, e, fun v q => by rw [d] at q; cases q⟩
  same a e := a.at e
  item a b c d := RZ.nextOf_tuple_item a b c d
  last h a b c d := RZ.nextOf_tuple_end h a b c d
theorem feedL : Feed Heap.IsListIter Heap.IsList where
  keep a e n := a.extBut e n
  hold a e n := a.extBut e n
  obj a := let ⟨o, e, _, d⟩ := a; ⟨o, e, fun v q => by rw [d] at q; cases q⟩
  same a e := a.at e
  item a b c d := wpAny_nextOf_list_item a b c d
  last h a b c d := wpAny_nextOf_list_end h a b c d
section
variable {a1 a2 : Heap → Addr → Addr → Nat → Prop} {c1 c2 : Heap → Addr → Array Value → Prop}
variable {prog : Program} {w : World} {A : Around} {E : Value → Shared → Prop} {s : Shared}
/-- what stands apart in such a zip -/
theorem zg_item {Z I O p1 p2 m1 m2 : Addr} {k1 k2 : Nat} {xs ys : Array Value} {x y u v : Value} {Q : Value → Shared → Prop} (F1 : Feed a1 c1) (F2 : Feed a2 c2) (D : ZipApart Z I O p1 p2 m1 m2) (gz : IsZip s.heap Z I O .none) (gI : IsPair s.heap I (.ref p1) (.ref p2)) (gO : IsPair s.heap O u v)
    (f1 : a1 s.heap p1 m1 k1) (f2 : a2 s.heap p2 m2 k2) (s1 : c1 s.heap m1 xs) (s2 : c2 s.heap m2 ys) (ex : xs[k1]? = some x) (ey : ys[k2]? = some y)
    (fin : ∀ h', IsZip h' Z I O (rawInt s.heap.objs.size) → IsPair h' O x y → a1 h' p1 m1 (k1 + 1) → a2 h' p2 m2 (k2 + 1) → IsPair h' s.heap.objs.size x y → h'.objs.size = s.heap.objs.size + 1 → (∀ c o, c ≠ Z → c ≠ O → c ≠ p1 → c ≠ p2 → s.heap.get? c = some o → h'.get? c = some o) → Q (.ref s.heap.objs.size) { s with heap := h' }) :
    wpAny (model prog w) A (Builtin.«zip.__next__» ⟨[.ref Z], []⟩) (fun r s' => ∃ v, r = .done (.ret v) ∧ Q v s') E s := by
  refine show wpAny _ _ (field (.ref Z) 2 >>= _) _ _ _ from wpAny_bind (wpAny_field gz rfl (x := .bool false) rfl (show wpAny _ _ (field (.ref Z) 3 >>= _) _ _ _ from wpAny_bind (wpAny_field gz rfl (x := .ref I) rfl (wpAny_bind (wpAny_seqItems gI rfl ?_)))))
  refine show wpAny _ _ (Builtin.SmallTypes.ownedTupleIsFree (.ref Z) >>= _) _ _ _ from wpAny_bind ?_
  unfold Builtin.SmallTypes.ownedTupleIsFree; refine wpAny_bind (wpAny_field gz rfl (x := .none) rfl (wpAny_pure ?_)); simp only [if_true]
  refine wpAny_bind (wpAny_rule (wpAny_bind (wpAny_field gz rfl (x := .ref O) rfl (wpAny_bind (wpAny_setField_rec gz (by simp) fun b1 gz1 e1 => ?_)))))
  replace gz1 : IsZip b1 Z I O .ellipsis := gz1
  refine wpAny_bind ?_; simp only [List.zipIdx_cons, List.zipIdx_nil, List.forIn_cons, List.forIn_nil]
  refine wpAny_bind (wpAny_bind (wpAny_onRaise (show wpAny _ _ (Builtin.SmallTypes.nextOf (.ref p1) >>= _) _ _ _ from wpAny_bind (F1.item (F1.keep f1 e1.extBut D.i1z) (F1.hold s1 e1.extBut D.l1z) ex fun b2 f1b e2 => wpAny_pure ?_))))
  have gO2 : IsPair b2 O u v := e2.extBut _ _ D.TOi1 (e1.extBut _ _ D.TOz gO)
  refine wpAny_bind (wpAny_seqItems gO2 rfl (wpAny_bind (wpAny_updateSeq_pair gO2 fun b3 gO3 e3 => ?_)))
  replace gO3 : IsPair b3 O x v := gO3
  refine wpAny_bind (wpAny_letGo (wpAny_pure (wpAny_bind (wpAny_bind (wpAny_onRaise (show wpAny _ _ (Builtin.SmallTypes.nextOf (.ref p2) >>= _) _ _ _ from wpAny_bind (F2.item (F2.keep (F2.keep (F2.keep f2 e1.extBut D.i2z) e2.extBut D.i12.symm) e3.extBut D.TOi2.symm) (F2.hold (F2.hold (F2.hold s2 e1.extBut D.l2z) e2.extBut D.l2i1) e3.extBut D.l2TO) ey fun b4 f2b e4 => wpAny_pure ?_)))))))
  have gO4 : IsPair b4 O x v := e4.extBut _ _ D.TOi2 gO3
  refine wpAny_bind (wpAny_seqItems gO4 rfl (wpAny_bind (wpAny_updateSeq_pair gO4 fun b5 gO5 e5 => ?_)))
  replace gO5 : IsPair b5 O x y := gO5
  refine wpAny_bind (wpAny_letGo (wpAny_pure (wpAny_pure (wpAny_bind (wpAny_seqItems gO5 rfl (wpAny_bind (wpAny_newTuple ?_)))))))
  have size5 : b5.objs.size = s.heap.objs.size := by rw [e5.1, e4.1, e3.1, e2.1, e1.1]
  have gz5 : IsZip b5 Z I O .ellipsis := e5.extBut _ _ D.TOz.symm (e4.extBut _ _ D.i2z.symm (e3.extBut _ _ D.TOz.symm (e2.extBut _ _ D.i1z.symm gz1)))
  have kept5 : ∀ c o, c ≠ Z → c ≠ O → c ≠ p1 → c ≠ p2 → s.heap.get? c = some o → b5.get? c = some o := fun c o n1 n2 n3 n4 q => e5.extBut _ _ n2 (e4.extBut _ _ n4 (e3.extBut _ _ n2 (e2.extBut _ _ n3 (e1.extBut _ _ n1 q))))
  have f15 : a1 b5 p1 m1 (k1 + 1) := F1.keep (F1.keep (F1.keep f1b e3.extBut D.TOi1.symm) e4.extBut D.i12) e5.extBut D.TOi1.symm
  have f25 : a2 b5 p2 m2 (k2 + 1) := F2.keep f2b e5.extBut D.TOi2.symm
  have ltZ : Z < b5.objs.size := Heap.lt_size gz5
  refine show wpAny _ _ (Builtin.SmallTypes.ownedTupleHandOut (.ref Z) (.ref b5.objs.size) >>= _) _ _ _ from wpAny_bind ?_
  unfold Builtin.SmallTypes.ownedTupleHandOut
  have gz6 : IsZip (b5.push { cls := .type "tuple", data := .seq #[x, y] }) Z I O .ellipsis := Heap.get?_push_of_some _ gz5
  refine wpAny_bind (wpAny_setField_rec gz6 (by simp) fun b7 gz7 e7 => ?_)
  replace gz7 : IsZip b7 Z I O (rawInt b5.objs.size) := gz7
  refine wpAny_setField_rec gz7 (by simp) fun b8 gz8 e8 => ?_
  replace gz8 : IsZip b8 Z I O (rawInt b5.objs.size) := gz8
  have up : ∀ c o, c ≠ Z → b5.get? c = some o → b8.get? c = some o := fun c o n q => e8.extBut _ _ n (e7.extBut _ _ n (Heap.get?_push_of_some _ q))
  have gT : IsPair b8 b5.objs.size x y := e8.extBut _ _ (Nat.ne_of_gt ltZ) (e7.extBut _ _ (Nat.ne_of_gt ltZ) (Heap.get?_push_size _ rfl))
  have size8 : b8.objs.size = b5.objs.size + 1 := by rw [e8.1, e7.1, Heap.size_push]
  rw [size5] at gz8 gT size8
  refine wpAny_pure ⟨_, rfl, show Q (.ref b5.objs.size) _ from ?_⟩
  rw [size5]
  exact fin b8 gz8 (up _ _ D.TOz gO5) (F1.same f15 fun o q => up _ o D.i1z q) (F2.same f25 fun o q => up _ o D.i2z q) gT size8 fun c o n1 n2 n3 n4 q => up c o n1 (kept5 c o n1 n2 n3 n4 q)
theorem zg_last {Z I O p1 p2 m1 m2 : Addr} {k1 k2 : Nat} {xs ys : Array Value} {u v : Value} {Q : Fin → Shared → Prop} (F1 : Feed a1 c1) (F2 : Feed a2 c2) (hh : A.handled = none) (D : ZipApart Z I O p1 p2 m1 m2) (gz : IsZip s.heap Z I O .none) (gI : IsPair s.heap I (.ref p1) (.ref p2)) (gO : IsPair s.heap O u v)
    (f1 : a1 s.heap p1 m1 k1) (f2 : a2 s.heap p2 m2 k2) (s1 : c1 s.heap m1 xs) (s2 : c2 s.heap m2 ys) (en : xs[k1]? = none ∨ ys[k2]? = none)
    (out : ∀ h' e, (∀ c o, c ≠ Z → c ≠ O → c ≠ p1 → c ≠ p2 → s.heap.get? c = some o → h'.get? c = some o) → (∃ o, h'.get? e = some o ∧ o.cls = .type "StopIteration") → E (.ref e) { s with heap := h' }) :
    wpAny (model prog w) A (Builtin.«zip.__next__» ⟨[.ref Z], []⟩) Q E s := by
  refine show wpAny _ _ (field (.ref Z) 2 >>= _) _ _ _ from wpAny_bind (wpAny_field gz rfl (x := .bool false) rfl (show wpAny _ _ (field (.ref Z) 3 >>= _) _ _ _ from wpAny_bind (wpAny_field gz rfl (x := .ref I) rfl (wpAny_bind (wpAny_seqItems gI rfl ?_)))))
  refine show wpAny _ _ (Builtin.SmallTypes.ownedTupleIsFree (.ref Z) >>= _) _ _ _ from wpAny_bind ?_
  unfold Builtin.SmallTypes.ownedTupleIsFree; refine wpAny_bind (wpAny_field gz rfl (x := .none) rfl (wpAny_pure ?_)); simp only [if_true]
  refine wpAny_bind (wpAny_rule (wpAny_bind (wpAny_field gz rfl (x := .ref O) rfl (wpAny_bind (wpAny_setField_rec gz (by simp) fun b1 gz1 e1 => ?_)))))
  replace gz1 : IsZip b1 Z I O .ellipsis := gz1
  refine wpAny_bind ?_; simp only [List.zipIdx_cons, List.zipIdx_nil, List.forIn_cons, List.forIn_nil]
  refine wpAny_bind (wpAny_bind (wpAny_onRaise (show wpAny _ _ (Builtin.SmallTypes.nextOf (.ref p1) >>= _) _ _ _ from ?_)))
  cases ex : xs[k1]? with
  | none =>
    refine wpAny_bind (F1.last hh (F1.keep f1 e1.extBut D.i1z) (F1.hold s1 e1.extBut D.l1z) ex fun b2 e q2 ⟨oe, g, cls⟩ => ?_)
    have gz2 : IsZip b2 Z I O .ellipsis := q2 _ _ D.i1z.symm gz1
    have ne : e ≠ Z := fun z => by rw [z, gz2] at g; cases g; simp at cls
    exact wpAny_setField_rec gz2 (by simp) fun b3 _ e3 => out b3 e (fun c o n1 _ n3 _ q => e3.extBut _ _ n1 (q2 _ _ n3 (e1.extBut _ _ n1 q))) ⟨oe, e3.extBut _ _ ne g, cls⟩
  | some x =>
    have ey : ys[k2]? = none := en.resolve_left fun z => by rw [ex] at z; cases z
    refine wpAny_bind (F1.item (F1.keep f1 e1.extBut D.i1z) (F1.hold s1 e1.extBut D.l1z) ex fun b2 f1b e2 => wpAny_pure ?_)
    have gO2 : IsPair b2 O u v := e2.extBut _ _ D.TOi1 (e1.extBut _ _ D.TOz gO)
    refine wpAny_bind (wpAny_seqItems gO2 rfl (wpAny_bind (wpAny_updateSeq_pair gO2 fun b3 gO3 e3 => ?_)))
    refine wpAny_bind (wpAny_letGo (wpAny_pure (wpAny_bind (wpAny_bind (wpAny_onRaise (show wpAny _ _ (Builtin.SmallTypes.nextOf (.ref p2) >>= _) _ _ _ from ?_))))))
    refine wpAny_bind (F2.last hh (F2.keep (F2.keep (F2.keep f2 e1.extBut D.i2z) e2.extBut D.i12.symm) e3.extBut D.TOi2.symm) (F2.hold (F2.hold (F2.hold s2 e1.extBut D.l2z) e2.extBut D.l2i1) e3.extBut D.l2TO) ey fun b4 e q4 ⟨oe, g, cls⟩ => ?_)
    have gz4 : IsZip b4 Z I O .ellipsis := q4 _ _ D.i2z.symm (e3.extBut _ _ D.TOz.symm (e2.extBut _ _ D.i1z.symm gz1))
    have ne : e ≠ Z := fun z => by rw [z, gz4] at g; cases g; simp at cls
    exact wpAny_setField_rec gz4 (by simp) fun b5 _ e5 => out b5 e (fun c o n1 n2 n3 n4 q => e5.extBut _ _ n1 (q4 _ _ n4 (e3.extBut _ _ n2 (e2.extBut _ _ n3 (e1.extBut _ _ n1 q))))) ⟨oe, e5.extBut _ _ ne g, cls⟩
end
end Pd

/-! zip(a tuple, a list): made and walked. -/
namespace Pd
open PySem L2 PySem.Spec PyProof.Rows
section
variable {prog : Program} {w : World} {A : Around} {E : Value → Shared → Prop} {s : Shared}
theorem zg_next {a1 a2 : Heap → Addr → Addr → Nat → Prop} {c1 c2 : Heap → Addr → Array Value → Prop} {Z I O p1 p2 m1 m2 : Addr} {k1 k2 : Nat} {xs ys : Array Value} {x y u v : Value} {Q : Option Value → Shared → Prop} (F1 : Feed a1 c1) (F2 : Feed a2 c2) (D : ZipApart Z I O p1 p2 m1 m2) (gz : IsZip s.heap Z I O .none) (gI : IsPair s.heap I (.ref p1) (.ref p2)) (gO : IsPair s.heap O u v)
    (f1 : a1 s.heap p1 m1 k1) (f2 : a2 s.heap p2 m2 k2) (s1 : c1 s.heap m1 xs) (s2 : c2 s.heap m2 ys) (ex : xs[k1]? = some x) (ey : ys[k2]? = some y)
    (fin : ∀ h', IsZip h' Z I O (rawInt s.heap.objs.size) → IsPair h' O x y → a1 h' p1 m1 (k1 + 1) → a2 h' p2 m2 (k2 + 1) → IsPair h' s.heap.objs.size x y → h'.objs.size = s.heap.objs.size + 1 → (∀ c o, c ≠ Z → c ≠ O → c ≠ p1 → c ≠ p2 → s.heap.get? c = some o → h'.get? c = some o) → Q (some (.ref s.heap.objs.size)) { s with heap := h' }) :
    wpAny (model prog w) A (pyNext (.ref Z)) Q E s := by
  have ty : s.TypeIs (.ref Z) "zip" := ⟨_, gz, rfl⟩
  unfold pyNext
  exact wpAny_bind (wpAny_attempt (wpAny_callSpecial?_slot (name := Str.ofString "__next__") ty F.slot_zip_next (wpAny_call_entry F.slot_zip_next ty F.entry_zip_next (zg_item F1 F2 D gz gI gO f1 f2 s1 s2 ex ey fun h' q1 q2 q3 q4 q5 q6 q7 => wpAny_pure (fin h' q1 q2 q3 q4 q5 q6 q7)) (F.args_zip_next_1 _))))
theorem zg_end {a1 a2 : Heap → Addr → Addr → Nat → Prop} {c1 c2 : Heap → Addr → Array Value → Prop} {Z I O p1 p2 m1 m2 : Addr} {k1 k2 : Nat} {xs ys : Array Value} {u v : Value} {Q : Option Value → Shared → Prop} (F1 : Feed a1 c1) (F2 : Feed a2 c2) (hh : A.handled = none) (D : ZipApart Z I O p1 p2 m1 m2) (gz : IsZip s.heap Z I O .none) (gI : IsPair s.heap I (.ref p1) (.ref p2)) (gO : IsPair s.heap O u v)
    (f1 : a1 s.heap p1 m1 k1) (f2 : a2 s.heap p2 m2 k2) (s1 : c1 s.heap m1 xs) (s2 : c2 s.heap m2 ys) (en : xs[k1]? = none ∨ ys[k2]? = none)
    (fin : ∀ h', (∀ c o, c ≠ Z → c ≠ O → c ≠ p1 → c ≠ p2 → s.heap.get? c = some o → h'.get? c = some o) → Q none { s with heap := h' }) : wpAny (model prog w) A (pyNext (.ref Z)) Q E s := by
  have ty : s.TypeIs (.ref Z) "zip" := ⟨_, gz, rfl⟩
  unfold pyNext
  refine wpAny_bind (wpAny_attempt (wpAny_callSpecial?_slot (name := Str.ofString "__next__") ty F.slot_zip_next (wpAny_call_entry F.slot_zip_next ty F.entry_zip_next (zg_last F1 F2 hh D gz gI gO f1 f2 s1 s2 en fun h' e kp ⟨o, g, cls⟩ => wpAny_bind (wpAny_isInstance (T := "StopIteration") (b := true) ⟨o, g, cls⟩ isSubtype_stop (wpAny_pure (fin _ kp)))) (F.args_zip_next_1 _))))
/-! made -/
abbrev zm1 (h : Heap) (l : Addr) : Heap := h.push { cls := .type "tuple_iterator", data := .fields #[.ref l, .int 0 0] }
abbrev zm2 (h : Heap) (l m : Addr) : Heap := (zm1 h l).push { cls := .type "list_iterator", data := .fields #[.ref m, .int 0 0] }
abbrev zm3 (h : Heap) (l m : Addr) : Heap := (zm2 h l m).push { cls := .type "tuple", data := .seq #[.ref h.objs.size, .ref (zm1 h l).objs.size] }
abbrev zm4 (h : Heap) (l m : Addr) : Heap := (zm3 h l m).push { cls := .type "tuple", data := .seq #[.none, .none] }
abbrev zm5 (h : Heap) (l m : Addr) : Heap := (zm4 h l m).push { cls := .type "zip", data := .fields #[.none, .bool false, .bool false, .ref (zm2 h l m).objs.size, .ref (zm3 h l m).objs.size] }
theorem zm_new (l m : Addr) (xs ys : Array Value) : Meets (Builtin.«zip.__new__» ⟨[.type "zip", .ref l, .ref m], []⟩) (fun _ R s => s.heap.IsTuple l xs ∧ s.heap.IsList m ys ∧ R (.ok (.ret (.ref (zm4 s.heap l m).objs.size))) { s with heap := zm5 s.heap l m }) :=
  .of_wp fun prog w A R s q => by
    obtain ⟨hp, gs, dr, tk, o⟩ := s; obtain ⟨t1, t2, q⟩ := q
    have sz := sub_zip
    have T1 : Heap.IsTuple (Shared.heap ⟨hp, gs, dr, tk, o⟩) l xs := t1
    have T2 : Heap.IsList (Shared.heap ⟨hp.push { cls := .type "tuple_iterator", data := .fields #[.ref l, .int 0 0] }, gs, dr, tk, o⟩) m ys := Heap.IsList.push t2 _
    wp_walk using wpAny_pyIter_tuple T1, wpAny_pyIter_list T2
    exact ⟨_, rfl, q⟩
theorem call_zm {l m : Addr} {xs ys : Array Value} {Q : Value → Shared → Prop} (t1 : s.heap.IsTuple l xs) (t2 : s.heap.IsList m ys)
    (q : ∀ h', IsZip h' (s.heap.objs.size + 4) (s.heap.objs.size + 2) (s.heap.objs.size + 3) .none → IsPair h' (s.heap.objs.size + 2) (.ref s.heap.objs.size) (.ref (s.heap.objs.size + 1)) → IsPair h' (s.heap.objs.size + 3) .none .none → h'.IsTupleIter s.heap.objs.size l 0 → h'.IsListIter (s.heap.objs.size + 1) m 0 → (∀ c o, s.heap.get? c = some o → h'.get? c = some o) → Q (.ref (s.heap.objs.size + 4)) { s with heap := h' }) :
    wpAny (model prog w) A (call (.type "zip") [.ref l, .ref m]) Q E s := by
  refine callType_new F.called_zip (by decide) (F.typeCall_zip_2 _ _) (F.newCall_zip_2 _ _) (fun obj => F.args_object_init_3 obj _ _) F.entry_zip_new (zm_new l m xs ys) ⟨t1, t2, ?_⟩
  have n1 : (zm1 s.heap l).objs.size = s.heap.objs.size + 1 := Heap.size_push ..
  have n2 : (zm2 s.heap l m).objs.size = s.heap.objs.size + 2 := (Heap.size_push ..).trans (by rw [n1])
  have n3 : (zm3 s.heap l m).objs.size = s.heap.objs.size + 3 := (Heap.size_push ..).trans (by rw [n2])
  have n4 : (zm4 s.heap l m).objs.size = s.heap.objs.size + 4 := (Heap.size_push ..).trans (by rw [n3])
  have up := fun (h : Heap) (o : Obj) {c : Addr} {o' : Obj} (z : h.get? c = some o') => Heap.get?_push_of_some o z
  have k5 : (zm5 s.heap l m).get? (zm4 s.heap l m).objs.size = some _ := Heap.get?_push_size _ rfl
  have k4 : (zm5 s.heap l m).get? (zm3 s.heap l m).objs.size = some _ := up _ _ (Heap.get?_push_size _ rfl)
  have k3 : (zm5 s.heap l m).get? (zm2 s.heap l m).objs.size = some _ := up _ _ (up _ _ (Heap.get?_push_size _ rfl))
  have k2 : (zm5 s.heap l m).get? (zm1 s.heap l).objs.size = some _ := up _ _ (up _ _ (up _ _ (Heap.get?_push_size _ rfl)))
  have k1 : (zm5 s.heap l m).get? s.heap.objs.size = some _ := up _ _ (up _ _ (up _ _ (up _ _ (Heap.get?_push_size _ rfl))))
  refine show _ ∧ _ from ?_
  rw [n2, n3, n4] at k5
  rw [n1, n2] at k3
  rw [n3] at k4
  rw [n1] at k2
  rw [n4]
  exact ⟨⟨_, k5, rfl⟩, q _ k5 k3 k4 ⟨_, k1, rfl, rfl⟩ ⟨_, k2, rfl, rfl⟩ fun c o z => up _ _ (up _ _ (up _ _ (up _ _ (up _ _ z))))⟩
end
end Pd

/-! for .. in zip(a tuple, a list) -/
namespace Pd
open PySem L2 PySem.Spec PyProof.Rows
/-- a tuple at a and a list at b, walked together -/
def ItzM (K : PySem.W.Frag) (a b : Addr) : It where
  go i H := ∃ (xs ys : List V) (x y : V), SqT K H a xs ∧ SqL K H b ys ∧ xs[i]? = some x ∧ ys[i]? = some y
  yld i H v H' := ∃ T x y, v = .ref T ∧ H T = none ∧ H' = upd H T (.tup [x, y]) ∧ (∀ xs, SqT K H a xs → xs[i]? = some x) ∧ ∀ ys, SqL K H b ys → ys[i]? = some y
  stop i H := ∃ xs ys : List V, SqT K H a xs ∧ SqL K H b ys ∧ (xs.length ≤ i ∨ ys.length ≤ i)
theorem five {Z I O p1 p2 c : Addr} (h : c ∈ [Z, I, O, p1, p2]) : c = Z ∨ c = I ∨ c = O ∨ c = p1 ∨ c = p2 := by simpa using h
theorem turn_zm {P : Program} {w : World} {K : PySem.W.Frag} {elts : List Expr} {kk : Nat} {tpos : Pos} {a b Z I O p1 p2 : Addr} (D : ZipApart Z I O p1 p2 a b) :
    Turn P w K (.Tuple elts kk tpos) (ItzM K a b) [Z, I, O, p1, p2] Z (fun i h => IsZip h Z I O .none ∧ IsPair h I (.ref p1) (.ref p2) ∧ (∃ x y, IsPair h O x y) ∧ h.IsTupleIter p1 a i ∧ h.IsListIter p2 b i) where
  mem := List.mem_cons_self
  obj := fun i h st c hc => by
    obtain ⟨gz, gI, ⟨x, y, gO⟩, f1, f2⟩ := st
    rcases five hc with q | q | q | q | q <;> subst q
    · exact ⟨_, gz, nofun⟩
    · exact ⟨_, gI, nofun⟩
    · exact ⟨_, gO, nofun⟩
    · exact feedT.obj f1
    · exact feedL.obj f2
  keep := fun i h h' st kp => by
    obtain ⟨gz, gI, ⟨x, y, gO⟩, f1, f2⟩ := st
    exact ⟨kp Z (by simp) _ gz, kp I (by simp) _ gI, ⟨x, y, kp O (by simp) _ gO⟩, feedT.same f1 fun o => kp p1 (by simp) o, feedL.same f2 fun o => kp p2 (by simp) o⟩
  item := by
    intro X eP ew eK calm i pins s σ H E J fp st go
    subst eP ew eK
    obtain ⟨gz, gI, ⟨u0, v0, gO⟩, f1, f2⟩ := st
    obtain ⟨xs, ys, x, y, qa, qb, hx, hy⟩ := go
    obtain ⟨its, rv, t1, _⟩ := J.tuple qa
    obtain ⟨its2, rv2, t2, _⟩ := J.list qb
    obtain ⟨u, hu, ru⟩ := rv.get hx
    obtain ⟨v, hv, rv'⟩ := rv2.get hy
    have ltZ : Z < s.heap.objs.size := Heap.lt_size gz
    refine zg_next feedT feedL D gz gI gO f1 f2 (show s.heap.IsTuple a its.toArray from t1) t2.isList (x := u) (y := v) (by simpa using hu) (by simpa using hv) fun b1 gz1 gO1 f1b f2b gT size kp => ?_
    refine ⟨_, rfl, wpAny_letOwnedTupleGo_zip (s := { s with heap := b1 }) gz1 fun b2 gz2 but => ?_⟩
    have gT2 : b2.get? s.heap.objs.size = some { cls := .type "tuple", data := .seq #[u, v] } := (but.2 _ (Nat.ne_of_gt ltZ)).trans gT
    have made : ObjOk X.prog X.w (upd H s.heap.objs.size (.tup [x, y])) b2 s.heap.objs.size (.tup [x, y]) := ⟨by show 2 ≤ sizeLine; decide, [u, v], .cons ru (.cons rv' .nil), ⟨_, gT2, rfl, _, rfl⟩⟩
    have away : ∀ c o, c ∉ [Z, I, O, p1, p2] → s.heap.get? c = some o → b2.get? c = some o := fun c o n q => (but.2 c fun z => n (by simp [z])).trans (kp c o (fun z => n (by simp [z])) (fun z => n (by simp [z])) (fun z => n (by simp [z])) (fun z => n (by simp [z])) q)
    have J1 : Inv X pins σ (upd H s.heap.objs.size (.tup [x, y])) { s with heap := b2 } := J.turnedNew (t' := s.toks) away fp (Nat.le_refl _) made
    refine ⟨.ref s.heap.objs.size, _, J1, rfl, ⟨_, x, y, rfl, J.hok.fresh (Nat.le_refl _), rfl, fun l hl => by rw [J.tuple_inj hl qa]; exact hx, fun l hl => by rw [J.list_inj hl qb]; exact hy⟩, ⟨gz2, (but.2 _ D.TIz).trans (kp _ _ D.TIz D.TITO D.TIi1 D.TIi2 gI), ⟨u, v, (but.2 _ D.TOz).trans gO1⟩, feedT.same f1b fun o q => (but.2 _ D.i1z).trans q, feedL.same f2b fun o q => (but.2 _ D.i2z).trans q⟩, fun c hc => ?_⟩
    have lt : c < s.heap.objs.size := by
      rcases five hc with q | q | q | q | q <;> subst q
      · exact ltZ
      · exact Heap.lt_size gI
      · exact Heap.lt_size gO
      · exact Heap.lt_size f1.choose_spec.1
      · exact Heap.lt_size f2.choose_spec.1
    rw [upd_ne (Nat.ne_of_lt lt)]
    exact (fp c hc).1
  done := by
    intro X eP ew eK calm i pins s σ H E J fp st stop
    subst eP ew eK
    obtain ⟨gz, gI, ⟨u0, v0, gO⟩, f1, f2⟩ := st
    obtain ⟨xs, ys, qa, qb, en⟩ := stop
    obtain ⟨its, rv, t1, _⟩ := J.tuple qa
    obtain ⟨its2, rv2, t2, _⟩ := J.list qb
    have l1 := rv.length
    have l2 := rv2.length
    have none : its.toArray[i]? = none ∨ its2.toArray[i]? = none := en.imp (fun q => by simp; omega) fun q => by simp; omega
    exact zg_end feedT feedL (J.ok.hd calm) D gz gI gO f1 f2 (show s.heap.IsTuple a its.toArray from t1) t2.isList none fun b1 kp => ⟨rfl, J.turnedL (t' := s.toks) (ch := [Z, I, O, p1, p2]) (fun c o n q => kp c o (fun z => n (by simp [z])) (fun z => n (by simp [z])) (fun z => n (by simp [z])) (fun z => n (by simp [z])) q) fp⟩
  self := fun A i s Q E st h => wpAny_pyIter_zip st.1 h
def iZipM (K : PySem.W.Frag) (ta : TA) : L2.TI := fun σ H R => ta σ H fun vs H1 => ∃ a b xs ys, vs = [.ref a, .ref b] ∧ SqT K H1 a xs ∧ SqL K H1 b ys ∧ R (ItzM K a b) H1
theorem pi_zipM {X : Cx} {e e2 : Expr} {ta : TA} {p pos tpos : Pos} {elts : List Expr} {kk : Nat} (hg : Gl X "zip") (hm : X.mg "zip" = none) (ha : PA X [e, e2] ta)
    (hs : starEach [e, e2] X.env = (false, eval e X.env) :: starEach [e2] X.env := by rfl) (hpl : (backTo pos (starEach [e2] X.env)).any (·.1) = false := by rfl) :
    PI X (.Tuple elts kk tpos) (.Call (.Name "zip" p) [e, e2] [] pos) (iZipM X.K ta) := by
  refine ⟨fun pins s σ H R J h => Call_ (ld_blt J hg hm PyProof.Rows.boot_zip (PyProof.Rows.callWith_type1 (thn (ha.run pos pins s σ H _ J h) fun us s1 ⟨vs, H1, J1, r1, q1⟩ => ?_) hs hpl))⟩
  obtain ⟨a, b, xs, ys, rfl, qa, qb, q⟩ := q1
  obtain ⟨u1, u2, rfl, r, r'⟩ := vals2 r1
  cases r
  cases r'
  obtain ⟨its, rv, t1, _⟩ := J1.tuple qa
  obtain ⟨its2, rv2, t2, _⟩ := J1.list qb
  have lta : a < s1.heap.objs.size := by obtain ⟨o1, g, _⟩ := id t1; exact Heap.lt_size g
  refine call_zm (show s1.heap.IsTuple a its.toArray from t1) t2.isList fun b1 gz gI gO f1 f2 kp => wpAny_pyIter_zip gz ?_
  have J2 : Inv X pins σ H1 { s1 with heap := b1 } := J1.kept (t' := s1.toks) kp
  refine ⟨s1.heap.objs.size + 4, [s1.heap.objs.size + 4, s1.heap.objs.size + 2, s1.heap.objs.size + 3, s1.heap.objs.size, s1.heap.objs.size + 1], _, _, H1, rfl, J2, turn_zm (PySem.W.ktu_apart s1.heap.objs.size a b lta t2.lt), ⟨gz, gI, ⟨_, _, gO⟩, f1, f2⟩, fun c hc => ?_, q⟩
  have le : s1.heap.objs.size ≤ c := by
    rcases five hc with z | z | z | z | z <;> rw [z] <;> omega
  exact J1.fpOk le (J1.hok.fresh le)
/-- zip of a tuple and a list, or of two tuples -/
def zipM : List D → T (List D)
  | [.tup as, .lst bs] => .ret (zipD as bs)
  | _ => .fail
section
variable {X : Cx} {a b : Expr} {pos : Pos}
theorem walk_zipM {π : Addr} {N : Addr → Bool} {H : Hp} {a b : Addr} {as bs : List D} {us : List V} (r : Rv X.K X.prog X.w π (Hide N H) (.ref a) (.tup as)) (hb : H b = some (.lst us)) (nb : N b = false) (bp : b ≠ π) (rb : RvL X.K X.prog X.w π (Hide N H) us bs) : Walk X π (Hide N H) (ItzM X.K a b) (zipD as bs) := fun N' H' i hn k => by
  obtain ⟨a', vs, e, _, sq, _, ra⟩ := sqt_kp k r
  cases e
  obtain ⟨nb', hb'⟩ := vis_some k nb bp hb
  have sq2 : SqL X.K H' b us := .inl (.inl hb')
  have rb' := rb.mono k
  refine ⟨fun d hd => ?_, fun e => ⟨vs, us, sq, sq2, ?_⟩⟩
  · obtain ⟨x, y, hx, hy, rfl⟩ := zipD_get hd
    obtain ⟨v, hv, rv⟩ := ra.get hx
    obtain ⟨u, hu, ru⟩ := rb'.get hy
    refine ⟨⟨vs, us, v, u, sq, sq2, hv, hu⟩, fun z H2 q => ?_⟩
    obtain ⟨T, x', y', rfl, hT, rfl, g1, g2⟩ := q
    have e1 := g1 vs sq
    have e2 := g2 us sq2
    rw [hv] at e1
    rw [hu] at e2
    cases e1; cases e2
    have nw := Ex.new (o := .tup [v, u]) hn.pot hT
    exact ⟨nw, .tup (hide_new (hn.new hT)) (hn.pot.ne hT) (.cons (rv.mono nw.kp.hide) (.cons (ru.mono nw.kp.hide) .nil))⟩
  · rw [zipD_len] at e
    rw [ra.length, rb.length]
    omega
theorem si_zipM {ms : Rho → T (List D)} {p tpos : Pos} {elts : List Expr} {kk : Nat} (hm : X.mg "zip" = none) (ha : SndA X [a, b] ms) (hg : Gl X "zip" := by rfl) (hs : starEach [a, b] X.env = (false, eval a X.env) :: starEach [b] X.env := by rfl) (hpl : (backTo pos (starEach [b] X.env)).any (·.1) = false := by rfl) :
    SndI X (.Tuple elts kk tpos) (.Call (.Name "zip" p) [a, b] [] pos) (iRg zipM ms) := fun {π N0 H0 N H σ ρ R} I h => ⟨_, pi_zipM hg hm pa_wp hs hpl, ha I (T.all_mono (fun ds hd => by
    intro vs H2 e2 r
    unfold zipM at hd
    split at hd
    · cases r with
      | cons r t => cases t with
        | cons r2 t =>
          cases t
          obtain ⟨a, vs, rfl, ha, ra⟩ := id r.tupE
          obtain ⟨b, us, rfl, hb, nb, bp, rb⟩ := id r2.lstE
          exact ⟨a, b, vs, us, rfl, ha, .inl (.inl hb), hd _ _ e2 (walk_zipM r hb nb bp rb)⟩
    · exact False.elim hd) (T.all_bind.mp h))⟩
end
end Pd

/-! A name that is a list or a tuple, walked; max(a list of ints); is not, of bools; == and != with instances, by promises. -/
namespace Pd
open PySem L2 PySem.Spec PyProof.Rows
def iSq (i : Nat) : Rho → T (List D) := fun ρ => match ρ[i]? with
  | some (.val (.lst ds)) => .ret ds
  | some (.val (.tup ds)) => .ret ds
  | _ => .fail
def maxI : List Int → Int → Int
  | [], m => m
  | n :: ns, m => maxI ns (if n > m then n else m)
theorem maxI_ge : ∀ (ns : List Int) (m : Int), m ≤ maxI ns m ∧ ∀ y ∈ ns, y ≤ maxI ns m
  | [], m => ⟨Int.le_refl _, fun _ h => (List.not_mem_nil h).elim⟩
  | n :: ns, m => by
    obtain ⟨a, b⟩ := maxI_ge ns (if n > m then n else m)
    have c : m ≤ (if n > m then n else m) ∧ n ≤ (if n > m then n else m) := by split <;> omega
    refine ⟨Int.le_trans c.1 a, fun y h => ?_⟩
    rcases List.mem_cons.mp h with e | e
    · subst e; exact Int.le_trans c.2 a
    · exact b y e
theorem maxI_le {b : Int} : ∀ (ns : List Int) (m : Int), m ≤ b → (∀ y ∈ ns, y ≤ b) → maxI ns m ≤ b
  | [], m, h, _ => h
  | n :: ns, m, h, g => maxI_le ns _ (by have := g n List.mem_cons_self; split <;> omega) fun y hy => g y (List.mem_cons_of_mem _ hy)
def bMaxL : List D → T D
  | [.lst (.int m :: ds)] => match intsOf ds with
    | some ns => .ret (.int (maxI ns m))
    | none => .fail
  | _ => .fail
def opIsNot : D → D → T D
  | .bl i, .bl j => .ret (.bl (!decide (i = j)))
  | _, _ => .fail
section
variable {X : Cx} {tg : Expr}
theorem si_sq (i : Nat) {x : Str} {pos : Pos} (hN : X.N[i]? = some x := by rfl) (hv : Vis X.env.scope x := by first | exact Or.inl rfl | exact Or.inr (Or.inl rfl) | exact Or.inr (Or.inr rfl)) (hd : (x == ("__debug__" : Str)) = false := by decide)
    (hcd : (x == ("__classdict__" : Str)) = false := by decide) : SndI X tg (.Name x pos) (iSq i) := fun {π N0 H0 N H σ ρ R} I h => by
  unfold iSq at h
  split at h
  · rename_i ds e
    refine si_list (m := eVar i) (sv i hN hv hd hcd) I ?_
    unfold iLst eVar
    rw [e]
    exact h
  · rename_i ds e
    refine si_tup (m := eVar i) (sv i hN hv hd hcd) I ?_
    unfold iTp eVar
    rw [e]
    exact h
  · exact False.elim h
theorem cs_maxL (hc : X.calm = true) : CaSnd X (.builtin "max") bMaxL := fun {π N H xs ds Q} hn r h => by
  unfold bMaxL at h
  split at h
  · rename_i m ds
    cases r with
    | cons r t =>
      cases t
      split at h
      · rename_i ns e
        obtain ⟨a, vs, rfl, ha, _, _, ra⟩ := id r.lstE
        have e2 : intsOf (.int m :: ds) = some (m :: ns) := by unfold intsOf; rw [e]
        refine ⟨_, cr_max hc, a, m :: ns, rfl, by rw [← ints_rv ra e2]; exact .inl (.inl ha), Nat.succ_pos _, fun z hz hy => ?_⟩
        obtain ⟨g1, g2⟩ := maxI_ge ns m
        have l : z ≤ maxI ns m := by
          rcases List.mem_cons.mp hz with q | q
          · subst q; exact g1
          · exact g2 z q
        have l2 : maxI ns m ≤ z := maxI_le ns m (hy m List.mem_cons_self) fun y h => hy y (List.mem_cons_of_mem _ h)
        rw [Int.le_antisymm l l2]
        exact h _ _ (Ex.refl hn.pot) (.int _)
      · exact False.elim h
  · exact False.elim h
theorem os_isNot : OpSnd X (compareOp .IsNot) opIsNot := fun {π N H x y dx dy Q} hn rx ry h => by
  unfold opIsNot at h
  split at h
  · rename_i i j
    have e1 := rx.bool
    have e2 := ry.bool
    subst e1 e2
    exact ⟨_, L2.op_notBl, i, j, rfl, rfl, h _ _ (Ex.refl hn.pot) (.bl _)⟩
  · exact False.elim h
/-- where the one reads, or else the other -/
def opOr (f g : D → D → T D) (p : D → D → Bool) : D → D → T D := fun x y => cond (p x y) (f x y) (g x y)
theorem os_or {op : Value → Value → Sem Value} {f g : D → D → T D} {p : D → D → Bool} (hf : OpSnd X op f) (hg : OpSnd X op g) : OpSnd X op (opOr f g p) := fun {π N H x y dx dy Q} hn rx ry h => by
  unfold opOr at h
  cases e : p dx dy with
  | true => rw [e] at h; exact hf hn rx ry h
  | false => rw [e] at h; exact hg hn rx ry h
end
/-- two instances by their class's own == -/
def SmP (P : Program) (w : World) (K : PySem.W.Frag) (mg : Str → Option Value) (base : Heap) (k : Nat) (E : D → D → Bool) : Prop := ∀ (c c2 : Str) (fs gs : List (Str × D)), E (.ins c fs) (.ins c2 gs) = true → ∃ (C f : Addr) (fd : FuncData) (ps : List Str) (F : List D → T D), ClsAt K c C ∧ ClsAt K c2 C ∧ CmpOwn K C .Eq f ∧ FnOk P w K mg base CX0 k f fd ps (spD K P w 2 F) ∧ Binds K fd ps [] ∧ F [.ins c fs, .ins c2 gs] = .ret (.bl true) ∧
  PySem.W.findIn K (.ref C) "__ne__" = some (some (.builtin "object.__ne__")) ∧ PySem.W.mroIn K C (.type "object") = some true
theorem SmP.ok {X : Cx} {k : Nat} {E : D → D → Bool} (h : SmP X.prog X.w X.K X.mg X.base k E) : SameOk X k E := h
/-- alike by one class's == -/
def eOne (c0 : Str) (F : List D → T D) (x y : D) : Bool := match x, y with
  | .ins c fs, .ins c2 gs => c == c0 && c2 == c0 && (match F [.ins c fs, .ins c2 gs] with
    | .ret (.bl true) => true
    | _ => false)
  | _, _ => false
theorem SmP.of {P : Program} {w : World} {K : PySem.W.Frag} {mg : Str → Option Value} {base : Heap} {k : Nat} {c0 : Str} {F : List D → T D} (h : PmE P w K mg base c0 .Eq k F) (h1 : ∀ C, ClsAt K c0 C → PySem.W.findIn K (.ref C) "__ne__" = some (some (.builtin "object.__ne__")) ∧ PySem.W.mroIn K C (.type "object") = some true) : SmP P w K mg base k (eOne c0 F) := fun c c2 fs gs ht => by
  obtain ⟨C, f, fd, ps, at_, O, G, B⟩ := h
  unfold eOne at ht
  simp only [Bool.and_eq_true, beq_iff_eq] at ht
  obtain ⟨⟨e1, e2⟩, e3⟩ := ht
  subst e1
  subst e2
  refine ⟨C, f, fd, ps, F, at_, at_, O, G, B, ?_, (h1 C at_).1, (h1 C at_).2⟩
  split at e3
  · assumption
  · cases e3
end Pd
namespace Pd
open PySem L2 PySem.Spec PyProof.Rows
section
variable {X : Cx} {e : Expr} {m : Rho → T D} {pos : Pos}
/-- isinstance(e, the class), by promise -/
def IcP (K : PySem.W.Frag) (mg : Str → Option Value) (c : Str) : Prop := ∃ C, ClsAt K c C ∧ ClsTy K C ∧ mg c = some (.ref C)
theorem s_isinstIP {p p2 : Pos} (ic : IcP X.K X.mg "Ratio") (kn : KnownC X.K ["Ratio"]) (hm : X.mg "isinstance" = none) (ha : Snd X e m) (hg : Gl X "isinstance" := by rfl) (hgt : Gl X "Ratio" := by rfl)
    (he : starEach [e, .Name "Ratio" p] X.env = (false, eval e X.env) :: starEach [.Name "Ratio" p] X.env := by rfl) (he2 : starEach [.Name "Ratio" p] X.env = (false, eval (.Name "Ratio" p) X.env) :: starEach [] X.env := by rfl) (hpl : (backTo pos (starEach [.Name "Ratio" p] X.env)).any (·.1) = false := by rfl) :
    Snd X (.Call (.Name "isinstance" p2) [e, .Name "Ratio" p] [] pos) (eUn (isOC ["Ratio"] "Ratio") m) :=
  let ⟨_, a, b, c⟩ := ic
  s_isinstO ["Ratio"] kn a b (fun c C' h1 h2 _ => by
    have e : c = "Ratio" := by simpa using h1
    subst e
    exact absurd h2 (by decide +kernel)) hm c ha hg hgt (by decide +kernel) (by decide) he he2 hpl
end
end Pd

/-! Defs that give a new list: who calls them may change it. -/
namespace Pd
open PySem L2 PySem.Spec PyProof.Rows
/-- a new list is given -/
def spR (K : PySem.W.Frag) (P : Program) (w : World) (n : Nat) (F : List D → T (List D)) : Sp := fun vs H Q _ => ∃ (π : Addr) (N : Addr → Bool) (ds : List D), HN π N H ∧ RvL K P w π (Hide N H) vs ds ∧ vs.length = n ∧
  (F ds).all fun es => ∀ l us H', Ex π H H' → H l = none → H' l = some (.lst us) → RvL K P w π (Hide (plus N l) H') us es → Q (.ref l) H'
/-- the list as a value -/
def asD (F : List D → T (List D)) : List D → T D := fun ds => (F ds).bind fun es => .ret (.lst es)
theorem spR_of {K : PySem.W.Frag} {P : Program} {w : World} {n : Nat} {F : List D → T (List D)} : ∀ vs H Q E, spD K P w n (asD F) vs H Q E → spR K P w n F vs H Q E := fun vs H Q E ⟨π, N, ds, hn, r, hl, h⟩ =>
  ⟨π, N, ds, hn, r, hl, T.all_mono (fun es he l us H' e h1 h2 r2 => he (.ref l) H' e (.lst (by rw [hide_in (hn.new h1)]; exact h2) (hn.pot.ne h1) (r2.mono (Kp.less fun a h => plus_old h)))) (T.all_bind.mp h)⟩
def retOwn (i : Nat) : Rho → T (List D) := fun ρ => match ρ[i]? with
  | some (.own ds) => .ret ds
  | _ => .fail
def bSeqL (m : Rho → T Out) (ml : Rho → T (List D)) : Rho → T (List D) := fun ρ => (m ρ).bind fun o => match o with
  | .nx ρ' => ml ρ'
  | _ => .fail
def bFreezeL (i : Nat) (ml : Rho → T (List D)) : Rho → T (List D) := fun ρ => match ρ[i]? with
  | some (.own ds) => ml (ρ.set i (.val (.lst ds)))
  | _ => ml ρ
def lCallF (n : Nat) (F : List D → T (List D)) (ms : Rho → T (List D)) : Rho → T (List D) := fun ρ => (ms ρ).bind fun ds => cond (ds.length == n) (F ds) .fail
def runL (n : Nat) (ml : Rho → T (List D)) : List D → T (List D) := fun ds => ml (ds.map Ent.val ++ List.replicate (n - ds.length) Ent.un)
section
variable (X : Cx)
/-- statements, the last of which gives a new list -/
def SndBL (sts : List Stmt) (ml : Rho → T (List D)) : Prop := ∀ ⦃π : Addr⦄ ⦃N0 : Addr → Bool⦄ ⦃H0 : Hp⦄ ⦃N : Addr → Bool⦄ ⦃H : Hp⦄ ⦃σ : L2.St⦄ ⦃ρ : Rho⦄ ⦃De : Ends⦄, EnvOk X.K X.prog X.w π N0 H0 N H σ ρ →
  (ml ρ).all (fun es => ∀ l us H', Ex π H0 H' → H0 l = none → H' l = some (.lst us) → RvL X.K X.prog X.w π (Hide (plus N0 l) H') us es → De.rt (.ref l) H') → wpSs X sts De σ H
end
section
variable {X : Cx} {st : Stmt} {sts rest : List Stmt} {e : Expr} {es : List Expr} {m : Rho → T Out} {ml : Rho → T (List D)} {pos : Pos}
theorem EnvOk.newAt {K : PySem.W.Frag} {P : Program} {w : World} {π : Addr} {N0 N : Addr → Bool} {H0 H : Hp} {σ : L2.St} {ρ : Rho} {l : Addr} (I : EnvOk K P w π N0 H0 N H σ ρ) (h : H l = none) : H0 l = none := by
  cases c : H0 l with
  | none => rfl
  | some o => rw [I.ex l o (I.hn.pot.ne h) c] at h; cases h
theorem bl_ret (he : SndL X e ml) : SndBL X [.Return (some e) pos] ml := fun {π N0 H0 N H σ ρ De} I h =>
  ⟨_, pss_one (ps_ret pe_wp), he I (T.all_mono (fun ds hd => by
    intro l vs H2 e2 hl h2 r
    refine hd l vs H2 ⟨I.ex.trans e2.kp, e2.pot⟩ (I.newAt hl) h2 (r.mono (Kp.less fun a ha => ?_))
    rcases plus_or ha with z | z
    · exact plus_old (I.sub a z)
    · rw [z]; exact plus_self) h)⟩
theorem bl_retOwn (i : Nat) {x : Str} {p : Pos} (hN : X.N[i]? = some x := by rfl) (hv : Vis X.env.scope x := by first | exact Or.inl rfl | exact Or.inr (Or.inl rfl) | exact Or.inr (Or.inr rfl)) (hd : (x == ("__debug__" : Str)) = false := by decide)
    (hcd : (x == ("__classdict__" : Str)) = false := by decide) : SndBL X [.Return (some (.Name x p)) pos] (retOwn i) := fun {π N0 H0 N H σ ρ De} I h => by
  unfold retOwn at h
  split at h
  · rename_i ds c
    obtain ⟨l, vs, hs1, nl, n0, hl, rl⟩ := I.lst i ds c
    refine ⟨_, pss_one (ps_ret (pe_var hN hv hd hcd)), .ref l, hs1, ?_⟩
    have h0 : H0 l = none := by
      rcases I.own0 l nl with z | z
      · rw [n0] at z; cases z
      · exact z
    refine h l vs H ⟨I.ex, I.hn.pot⟩ h0 hl (rl.mono (Kp.less fun a ha => ?_))
    rcases plus_or ha with z | z
    · exact I.sub a z
    · rw [z]; exact nl
  · exact False.elim h
theorem bl_cons (h1 : SndS X st m) (h2 : SndBL X rest ml) : SndBL X (st :: rest) (bSeqL m ml) := fun {π N0 H0 N H σ ρ De} I h =>
  ⟨_, pss_cons ps_wp pss_wp, h1 I (T.all_mono (fun o ho => by
    cases o with
    | nx ρ' => exact fun N' H' σ' I' => h2 I' ho
    | rt d => exact False.elim ho
    | bk ρ' => exact False.elim ho
    | ct ρ' => exact False.elim ho) (T.all_bind.mp h))⟩
theorem bl_freeze (i : Nat) (h : SndBL X sts ml) : SndBL X sts (bFreezeL i ml) := fun {π N0 H0 N H σ ρ De} I q => by
  unfold bFreezeL at q
  split at q
  · obtain ⟨N', I'⟩ := I.freeze (by assumption)
    exact h I' q
  · exact h I q
theorem sl_callR {k n : Nat} {f : Addr} {fd : FuncData} {ps : List Str} {F : List D → T (List D)} {x : Str} {p : Pos} {ms : Rho → T (List D)} (G : FnOk X.prog X.w X.K X.mg X.base CX0 k f fd ps (spR X.K X.prog X.w n F)) (hr : Room k X.A) (hm : X.mg x = some (.ref f)) (hk : PySem.W.keepIn X.K (.ref f) = true) (hb : Binds X.K fd ps [])
    (ha : SndA X (e :: es) ms) (hg : Gl X x := by rfl) (hdb : (x == ("__debug__" : Str)) = false := by decide) (he : starEach (e :: es) X.env = (false, eval e X.env) :: starEach es X.env := by rfl) (hpl : (backTo pos (starEach es X.env)).any (·.1) = false := by rfl) :
    SndL X (.Call (.Name x p) (e :: es) [] pos) (lCallF n F ms) := fun {π N0 H0 N H σ ρ Q} I h =>
  ⟨_, pe_call G hr hg hm hk hb .nil pass0 pa_wp hdb he hpl, ha I (T.all_mono (fun ds hd vs H2 e1 r => by
    obtain ⟨hn, hd⟩ := cond_all hd
    show spR X.K X.prog X.w n F (vs ++ []) H2 Q E0
    rw [List.append_nil]
    exact ⟨π, N, ds, I.hn.ext e1, r, by rw [r.length]; exact by simpa using hn, T.all_mono (fun es q => q.up e1 I.hn.pot) hd⟩) (T.all_bind.mp h))⟩
end
section
variable {P : Program} {w : World} {K : PySem.W.Frag} {mg : Str → Option Value} {base : Heap}
/-- a def that gives a new list, by its body's reading -/
theorem fnL_ok {x qual : Str} {st : Stmt} {f : Addr} {fd : FuncData} {Nm ps : List Str} {k n p : Nat} {ml : Rho → T (List D)} {G : List D → T (List D)} (F : Fun K x qual st f fd) (S : FnScope Nm ps (defScope st)) (hn : Nm.length = n) (hp : ps.length = p) (hG : G = runL n ml)
    (hb : ∀ (cdv : Value) (A : Around) (outer : List Env) (s : Shared) (H : Hp) (E : XK), Room k (A.deeper (PyProof.Rows.envOfC qual (defScope st) s.heap.objs.size f cdv)) → SndBL (cxOf CX0 P w K mg base Nm qual (defScope st) f cdv A outer s H E).nox (defBody st) ml) :
    FnOk P w K mg base CX0 (k + 1) f fd ps (spR K P w p G) := by
  subst hn hp hG
  refine F.ok S (fun vs H Q E h => ?_) (fun cdv A outer s H vs Q E hr h => ?_)
  · obtain ⟨π, N, ds, hn, r, hl, _⟩ := h
    exact hl
  · obtain ⟨π, N, ds, hn, r, hl, hall⟩ := h
    exact hb cdv A outer s H E hr (env_start hn r) hall
/-- by name -/
def PmR (P : Program) (w : World) (K : PySem.W.Frag) (mg : Str → Option Value) (base : Heap) (x : Str) (k n : Nat) (ps : List Str) (F : List D → T (List D)) : Prop := ∃ (a : Addr) (fd : FuncData), mg x = some (.ref a) ∧ PySem.W.keepIn K (.ref a) = true ∧ FnOk P w K mg base CX0 k a fd ps (spR K P w n F) ∧ Binds K fd ps []
/-- a promise of a value, where a new list is promised -/
theorem PmR.pm {x : Str} {k n : Nat} {ps : List Str} {F : List D → T (List D)} (h : PmR P w K mg base x k n ps F) : Pm P w K mg base x k n ps (asD F) :=
  let ⟨a, fd, m, kp, G, B⟩ := h
  ⟨a, fd, m, kp, G.imp spR_of, B⟩
end
section
variable {X : Cx} {e : Expr} {es : List Expr} {pos : Pos} {ps : List Str} {k n : Nat} {F : List D → T (List D)} {ms : Rho → T (List D)}
theorem sl_callPR {x : Str} {p : Pos} (h : PmR X.prog X.w X.K X.mg X.base x k n ps F) (hr : Room k X.A) (ha : SndA X (e :: es) ms) (hg : Gl X x := by rfl) (hdb : (x == ("__debug__" : Str)) = false := by decide) (he : starEach (e :: es) X.env = (false, eval e X.env) :: starEach es X.env := by rfl) (hpl : (backTo pos (starEach es X.env)).any (·.1) = false := by rfl) :
    SndL X (.Call (.Name x p) (e :: es) [] pos) (lCallF n F ms) := let ⟨_, _, hm, hk, G, B⟩ := h; sl_callR G hr hm hk B ha hg hdb he hpl
end
end Pd

/-! Own lists looked at and kept; two at once, new lists among them. -/
namespace Pd
open PySem L2 PySem.Spec PyProof.Rows
/-- own list compared, and own still -/
def ePeek (f : D → D → T D) (i : Nat) (mb : Rho → T D) : Rho → T D := fun ρ => match ρ[i]? with
  | some (.own ds) => (mb ρ).bind fun y => (f (.lst ds) y).bind fun d => (asB d).bind fun b => .ret (.bl b)
  | _ => .fail
/-- xs, a = a new list, value -/
def sParL (i j : Nat) (ml : Rho → T (List D)) (ma : Rho → T D) : Rho → T Out := fun ρ => (ml ρ).bind fun ds => (ma ρ).bind fun x => .ret (.nx ((ρ.set i (.own ds)).set j (.val x)))
/-- xs, ys = two new lists -/
def sParLL (i j : Nat) (ml mk : Rho → T (List D)) : Rho → T Out := fun ρ => (ml ρ).bind fun ds => (mk ρ).bind fun es => .ret (.nx ((ρ.set i (.own ds)).set j (.own es)))
section
variable {X : Cx} {a b : Expr} {ma mb : Rho → T D} {ml mk : Rho → T (List D)} {pos : Pos}
theorem s_peek {op : CmpOp} {f : D → D → T D} (ho : OpSnd X (compareOp op) f) (i : Nat) (hb : Snd X b mb) {x : Str} {p : Pos} (hm : behindInMarks op b = false) (hN : X.N[i]? = some x := by rfl) (hv : Vis X.env.scope x := by first | exact Or.inl rfl | exact Or.inr (Or.inl rfl) | exact Or.inr (Or.inr rfl)) (hd : (x == ("__debug__" : Str)) = false := by decide)
    (hcd : (x == ("__classdict__" : Str)) = false := by decide) : Snd X (.Compare (.Name x p) [op] [b] pos) (ePeek f i mb) := fun {π N0 H0 N H σ ρ Q} I h => by
  unfold ePeek at h
  split at h
  · rename_i ds c
    obtain ⟨l, vs, hs1, nl, n0, hl, rl⟩ := I.lst i ds c
    refine ⟨_, pe_cmpR op_wp (pe_var hN hv hd hcd) pe_wp hm, .ref l, hs1, hb I (T.all_mono (fun dy hy => ?_) (T.all_bind.mp h))⟩
    intro u H2 e2 r2
    have lp := N_ne I.hn nl
    have hn2 : HN π (minus N l) H2 := ⟨(I.hn.ext e2).pot, by simp [minus, I.hn.npi], fun a ha => (I.hn.ext e2).isS a (minus_in ha).1⟩
    have less : Kp π (Hide N H2) (Hide (minus N l) H2) := Kp.less fun a ha => (minus_in ha).1
    refine ho hn2 (.lst (by rw [hide_in minus_self]; exact e2.kp l _ lp hl) lp ((rl.mono e2.kp.hide).mono less)) (r2.mono less) (T.all_mono (fun d hd2 => ?_) (T.all_bind.mp hy))
    obtain ⟨bb, rfl, q⟩ := asB_all (T.all_bind.mp hd2)
    intro v H3 e3 r3
    rw [r3.bool]
    exact q (.bl bb) H3 (e2.trans e3) (.bl bb)
  · exact False.elim h
theorem ss_parL {i j : Nat} {x y : Str} {px py pt : Pos} {kt k2 pt2} (hc : X.calm = true) (hN : X.N.Nodup) (ha : SndL X a ml) (hb : Snd X b mb) (hij : i ≠ j := by decide) (hi : X.N[i]? = some x := by rfl) (hj : X.N[j]? = some y := by rfl)
    (hx : X.env.scope.names.lookup x = some .local := by rfl) (hy : X.env.scope.names.lookup y = some .local := by rfl)
    (hw : swappedStores [.Tuple [.Name x px, .Name y py] kt pt] (.Tuple [a, b] k2 pt2) X.env = pure (some [x, y]) := by rfl)
    (hs : swapsWithSole [.Tuple [.Name x px, .Name y py] kt pt] (.Tuple [a, b] k2 pt2) pos.line X.env = pure false := by rfl) (he : starEach [a, b] X.env = (false, eval a X.env) :: starEach [b] X.env := by rfl) (he2 : starEach [b] X.env = (false, eval b X.env) :: starEach [] X.env := by rfl) :
    SndS X (.Assign [.Tuple [.Name x px, .Name y py] kt pt] (.Tuple [a, b] k2 pt2) pos) (sParL i j ml mb) := fun {π N0 H0 N H σ ρ De} I h => ⟨_, ps_par hc hN hi hj hij hx hy (pa_cons pe_wp (pa_cons pe_wp pa_nil he2) he) hw hs, by
  refine ha I (T.all_mono (fun ds hds => ?_) (T.all_bind.mp h))
  intro l vs H1 e1 hl h1 r1
  refine hb (I.hideNew e1 hl h1 ⟨ds, r1⟩) (T.all_mono (fun d hd => ?_) (T.all_bind.mp hds))
  intro v H2 e2 r2
  have h2 := e2.kp l _ (I.hn.pot.ne hl) h1
  exact ⟨.ref l, v, rfl, hd _ _ _ ((I.newOwn (x := .own ds) (e1.trans e2) hl h2 ⟨vs, rfl, r1.mono e2.kp.hide⟩).set r2)⟩⟩
theorem ss_parLL {i j : Nat} {x y : Str} {px py pt : Pos} {kt k2 pt2} (hc : X.calm = true) (hN : X.N.Nodup) (ha : SndL X a ml) (hb : SndL X b mk) (hij : i ≠ j := by decide) (hi : X.N[i]? = some x := by rfl) (hj : X.N[j]? = some y := by rfl)
    (hx : X.env.scope.names.lookup x = some .local := by rfl) (hy : X.env.scope.names.lookup y = some .local := by rfl)
    (hw : swappedStores [.Tuple [.Name x px, .Name y py] kt pt] (.Tuple [a, b] k2 pt2) X.env = pure (some [x, y]) := by rfl)
    (hs : swapsWithSole [.Tuple [.Name x px, .Name y py] kt pt] (.Tuple [a, b] k2 pt2) pos.line X.env = pure false := by rfl) (he : starEach [a, b] X.env = (false, eval a X.env) :: starEach [b] X.env := by rfl) (he2 : starEach [b] X.env = (false, eval b X.env) :: starEach [] X.env := by rfl) :
    SndS X (.Assign [.Tuple [.Name x px, .Name y py] kt pt] (.Tuple [a, b] k2 pt2) pos) (sParLL i j ml mk) := fun {π N0 H0 N H σ ρ De} I h => ⟨_, ps_par hc hN hi hj hij hx hy (pa_cons pe_wp (pa_cons pe_wp pa_nil he2) he) hw hs, by
  refine ha I (T.all_mono (fun ds hds => ?_) (T.all_bind.mp h))
  intro l vs H1 e1 hl h1 r1
  refine hb (I.hideNew e1 hl h1 ⟨ds, r1⟩) (T.all_mono (fun es hes => ?_) (T.all_bind.mp hds))
  intro l2 us H2 e2 hl2 h2 r2
  exact ⟨.ref l, .ref l2, rfl, hes _ _ _ ((I.newOwn (x := .own ds) e1 hl h1 ⟨vs, rfl, r1⟩).newOwn (x := .own es) e2 hl2 h2 ⟨us, rfl, r2⟩)⟩⟩
def lCallKF (n : Nat) (perm : List Nat) (F : List D → T (List D)) (ms : Rho → T (List D)) : Rho → T (List D) := fun ρ => (ms ρ).bind fun ds => cond (ds.length == n) (F (pickD perm ds)) .fail
theorem sl_callKR {k n : Nat} {f : Addr} {fd : FuncData} {ps ks : List Str} {perm : List Nat} {F : List D → T (List D)} {x : Str} {p : Pos} {kws : List Keyword} {ms : Rho → T (List D)} (G : FnOk X.prog X.w X.K X.mg X.base CX0 k f fd ps (spR X.K X.prog X.w n F)) (hr : Room k X.A) (hm : X.mg x = some (.ref f)) (hk : PySem.W.keepIn X.K (.ref f) = true)
    (hb : KBind X.K fd ps ks perm) (hp : perm.length = n) (hkn : ks.length = n) (ha : SndK X kws ms) (hg : Gl X x := by rfl) (hall : (backToKw pos (keywordEach kws X.env)).all (·.1.isSome) = true := by rfl) (hks : (backToKw pos (keywordEach kws X.env)).filterMap (·.1) = ks := by rfl)
    (hdb : (x == ("__debug__" : Str)) = false := by decide) (hpl : ((backTo pos (starEach [] X.env)).any (·.1) || (backToKw pos (keywordEach kws X.env)).any (·.1.isNone)) = false := by rfl) : SndL X (.Call (.Name x p) [] kws pos) (lCallKF n perm F ms) := fun {π N0 H0 N H σ ρ Q} I h => by
  refine ⟨fun σ H Q => wpK X kws σ H fun zs H2 => zs.length = n ∧ spR X.K X.prog X.w n F (perm.map fun i => zs.getD i .non) H2 Q E0, ⟨fun pins s σ H Q J q => ?_⟩, ?_⟩
  · refine wpAny_Call_Name_kw (ld_glob J hg hm ?_ hdb)
    refine PySem.W.callWith_KW0 (h₀ := X.base) J.ok.mod.kin hk hall (thn (pk_wp.run pos pins s σ H _ J q) fun ws s2 ⟨zs, H2, I2, rz, hz, q2⟩ => ⟨I2.kIn, ?_⟩) hpl
    rw [hks]
    show wpAny _ _ (call (.ref f) [] (ks.zip ws)) _ _ _
    have r2 := vals_pick rz perm
    refine wpAny_call (codeAny_mono (G.run X.A X.stack s2 H2 ⟨[], ks.zip ws⟩ _ _ Q E0 hr I2.env0 (hb s2 ws I2.kIn (by rw [← rz.length, hz, hkn])) r2 q2) fun r s' hq => ?_)
    cases r with
    | error e => exact pass0 pins σ H2 s2 e s' I2 hq
    | ok fl =>
      cases fl with
      | ret u => exact I2.after hq
      | next => exact False.elim hq
      | brk => exact False.elim hq
      | cont => exact False.elim hq
  · refine ha I (T.all_mono (fun ds hd => ?_) (T.all_bind.mp h))
    intro vs H2 e1 r
    obtain ⟨hn, hd⟩ := cond_all hd
    have hn : ds.length = n := by simpa using hn
    exact ⟨by rw [r.length]; exact hn, π, N, pickD perm ds, I.hn.ext e1, rvl_pick r perm, by rw [List.length_map]; exact hp, T.all_mono (fun es q => q.up e1 I.hn.pot) hd⟩
/-- by name, called by keywords -/
def PmRK (P : Program) (w : World) (K : PySem.W.Frag) (mg : Str → Option Value) (base : Heap) (x : Str) (k n : Nat) (ps ks : List Str) (perm : List Nat) (F : List D → T (List D)) : Prop := ∃ (a : Addr) (fd : FuncData), mg x = some (.ref a) ∧ PySem.W.keepIn K (.ref a) = true ∧ FnOk P w K mg base CX0 k a fd ps (spR K P w n F) ∧ KBind K fd ps ks perm
theorem sl_callPRK {ps ks : List Str} {k n : Nat} {perm : List Nat} {F : List D → T (List D)} {ms : Rho → T (List D)} {x : Str} {p : Pos} {kws : List Keyword} (h : PmRK X.prog X.w X.K X.mg X.base x k n ps ks perm F) (hr : Room k X.A) (hp : perm.length = n) (hkn : ks.length = n) (ha : SndK X kws ms) (hg : Gl X x := by rfl) (hall : (backToKw pos (keywordEach kws X.env)).all (·.1.isSome) = true := by rfl) (hks : (backToKw pos (keywordEach kws X.env)).filterMap (·.1) = ks := by rfl)
    (hdb : (x == ("__debug__" : Str)) = false := by decide) (hpl : ((backTo pos (starEach [] X.env)).any (·.1) || (backToKw pos (keywordEach kws X.env)).any (·.1.isNone)) = false := by rfl) : SndL X (.Call (.Name x p) [] kws pos) (lCallKF n perm F ms) := let ⟨_, _, hm, hk, G, B⟩ := h; sl_callKR G hr hm hk B hp hkn ha hg hall hks hdb hpl
end
end Pd

/-! enumerate(a list); extend. -/
namespace Pd
open PySem L2 PySem.Spec PyProof.Rows
def enumL : List D → T (List D)
  | [.lst ds] => .ret (numbered 0 ds)
  | _ => .fail
def sExt (i : Nat) (ml : Rho → T (List D)) : Rho → T Out := fun ρ => match ρ[i]? with
  | some (.own ds) => (ml ρ).bind fun es => cond (small (ds ++ es)) (.ret (.nx (ρ.set i (.own (ds ++ es))))) .fail
  | _ => .fail
section
variable {X : Cx} {a e : Expr} {ms : Rho → T (List D)} {ml : Rho → T (List D)} {p pos tpos : Pos} {elts : List Expr} {kk : Nat}
theorem si_enumL (hm : X.mg "enumerate" = none) (ha : SndA X [a] ms) (hg : Gl X "enumerate" := by rfl) (hs : starEach [a] X.env = [(false, eval a X.env)] := by rfl) : SndI X (.Tuple elts kk tpos) (.Call (.Name "enumerate" p) [a] [] pos) (iRg enumL ms) := fun {π N0 H0 N H σ ρ R} I h =>
  ⟨_, pi_enum hg hm pa_wp hs, ha I (T.all_mono (fun ds hd => by
    intro vs H2 e2 r
    unfold enumL at hd
    split at hd
    · cases r with
      | cons r t =>
        cases t
        obtain ⟨a, us, rfl, hq, na, ne, ra⟩ := id r.lstE
        refine ⟨a, us, rfl, .inl (.inl hq), hd _ _ e2 fun N' H' i hn k => ?_⟩
        obtain ⟨n', h'⟩ := vis_some k na ne hq
        have sq : SqL X.K H' a us := .inl (.inl h')
        have rb := ra.mono k
        refine ⟨fun d hd => ?_, fun e => ⟨us, sq, by rw [e, numbered_len, rb.length]; exact Nat.le_refl _⟩⟩
        obtain ⟨x, hx, rfl⟩ := numbered_get hd
        obtain ⟨v, hv, rv⟩ := rb.get hx
        refine ⟨⟨us, v, sq, hv⟩, fun y H3 z => ?_⟩
        obtain ⟨T, x', rfl, hT, rfl, all⟩ := z
        have e3 := all us sq
        rw [hv] at e3
        cases e3
        have en := Ex.new (o := .tup [V.int (i : Nat), v]) hn.pot hT
        exact ⟨en, .tup (hide_new (hn.new hT)) (hn.pot.ne hT) (.cons (by simpa using Rv.int _) (.cons (rv.mono en.kp.hide) .nil))⟩
    · exact False.elim hd) (T.all_bind.mp h))⟩
theorem ss_ext {i : Nat} {x : Str} {p apos cpos : Pos} (he : SndL X e ml) (hN : X.N[i]? = some x := by rfl) (hv : Vis X.env.scope x := by first | exact Or.inl rfl | exact Or.inr (Or.inl rfl) | exact Or.inr (Or.inr rfl)) (hd : (x == ("__debug__" : Str)) = false := by decide)
    (hcd : (x == ("__classdict__" : Str)) = false := by decide) (hse : starEach [e] X.env = (false, eval e X.env) :: starEach [] X.env := by rfl) (hpl : (backTo cpos (starEach [] X.env)).any (·.1) = false := by rfl)
    (hs : swapsWith (.Call (.Attribute (.Name x p) "extend" apos) [e] [] cpos) none pos.line X.env = pure false := by rfl) (hfew : ((((backTo cpos (starEach [e] X.env)).all fun x => !x.fst) && (backToKw cpos (keywordEach [] X.env)).all fun x => x.fst.isSome) && decide (([e].length + ([] : List Keyword).length + if ([] : List Keyword).isEmpty = true then 0 else 1) < 30)) = true := by rfl) (hline : (apos.endLine == cpos.line) = true := by rfl) : SndS X (.Expr (.Call (.Attribute (.Name x p) "extend" apos) [e] [] cpos) pos) (sExt i ml) := fun {π N0 H0 N H σ ρ De} I h => by
  unfold sExt at h
  split at h
  · rename_i ds c
    obtain ⟨l, vs, hs1, nl, n0, hl, rl⟩ := I.lst i ds c
    refine ⟨_, ps_expr (pe_bm PySem.F.plainAttrs_list PySem.F.slot_list_extend PySem.F.type_list_extend mt_extend (pe_var hN hv hd hcd) (pa_cons pe_wp pa_nil hse) (hfew := hfew) (hline := hline) (hs := hse) (hplain := hpl)) hs, .ref l, hs1, .inl ⟨rfl, _, SqL.of hl⟩, ?_⟩
    refine he I (T.all_mono (fun es hd => ?_) (T.all_bind.mp h))
    intro b zs H2 e2 hb h2 r
    obtain ⟨hsm, hd⟩ := cond_all hd
    have hl2 := e2.kp l _ (N_ne I.hn nl) hl
    have r' := r.mono (Kp.less (N' := N) fun a h => plus_old h)
    have rr := (rl.mono e2.kp.hide).append r'
    refine ⟨l, b, vs, zs, rfl, rfl, hl2, h2, ?_, hd _ _ _ ((I.ext e2).upAny c rfl hs1 nl n0 (.inl ⟨vs ++ zs, ds ++ es, rfl, rfl, rr⟩))⟩
    have q := rr.length
    rw [List.length_append] at q
    rw [q]
    exact Nat.le_trans (of_decide_eq_true hsm) (by decide)
  · exact False.elim h
end
end Pd

/-! `__init__` of a class: checks, then attributes, each from the arguments. -/
namespace Pd
open PySem L2 PySem.Spec PyProof.Rows
theorem RvF.add {K : PySem.W.Frag} {P : Program} {w : World} {π : Addr} {H : Hp} {f : Str} {v : V} {d : D} : ∀ {ds : List (Str × D)} {vs : List (Str × V)}, RvF K P w π H vs ds → fieldD f ds = none → Rv K P w π H v d → RvF K P w π H (putF f v vs) (ds ++ [(f, d)])
  | [], _, .nil, _, r => .cons r .nil
  | (g, dg) :: ds, (_, vg) :: vs, .cons rg t, h, r => by
    unfold fieldD at h
    have ne : ¬ g = f := fun z => by
      subst z
      simp at h
    have h' : fieldD f ds = none := by
      have e : (f == g) = false := beq_false_of_ne fun z => ne z.symm
      have e' : (g == f) = false := beq_false_of_ne ne
      simpa [e, e'] using h
    show RvF K P w π H (if g = f then (g, v) :: vs else (g, vg) :: putF f v vs) ((g, dg) :: (ds ++ [(f, d)]))
    rw [if_neg ne]
    exact .cons rg (t.add h' r)
abbrev MI : Type := Rho → List (Str × D) → T (List (Str × D))
def iNil : MI := fun _ fs => .ret fs
def iChk (m : Rho → T D) (k : MI) : MI := fun ρ fs => (m ρ).bind fun _ => k ρ fs
def iIf (mt : Rho → T Bool) (k : MI) : MI := fun ρ fs => (mt ρ).bind fun b => cond b .fail (k ρ fs)
def iFld (f : Str) (m : Rho → T D) (k : MI) : MI := fun ρ fs => (m ρ).bind fun d => cond ((fieldD f fs).isNone && decide (fs.length < 100)) (k ρ (fs ++ [(f, d)])) .fail
section
variable (X : Cx)
/-- the rest of an `__init__`: slot 0 is the new object, whose attributes so far are known -/
def SndIn (c0 : Str) (sts : List Stmt) (k : MI) : Prop := ∀ ⦃π : Addr⦄ ⦃N0 : Addr → Bool⦄ ⦃H0 : Hp⦄ ⦃N : Addr → Bool⦄ ⦃H : Hp⦄ ⦃σ : L2.St⦄ ⦃ρ : Rho⦄ ⦃De : Ends⦄ ⦃x C dx : Addr⦄ ⦃fv : List (Str × V)⦄ ⦃fs : List (Str × D)⦄, EnvOk X.K X.prog X.w π N0 H0 N H σ ρ → σ[0]? = some (some (.ref x)) → N x = true → N0 x = false →
  (∀ (j : Nat) (f : Ent), ρ[j]? = some f → f.isOwn = false) → Cls X.K C → ClsAt X.K c0 C → H x = some (.ins C dx fv) → RvF X.K X.prog X.w π (Hide N H) fv fs →
  (k ρ fs).all (fun gs => ∀ (H' : Hp) (gv : List (Str × V)), (∀ a o, a ≠ π → a ≠ x → H a = some o → H' a = some o) → PotOk H' π → H' x = some (.ins C dx gv) → RvF X.K X.prog X.w π (Hide N H') gv gs → De.nx σ H') → wpSs X sts De σ H
end
section
variable {X : Cx} {c0 : Str} {rest bd : List Stmt} {e c : Expr} {m : Rho → T D} {mt : Rho → T Bool} {k : MI} {pos : Pos}
theorem in_nil : SndIn X c0 [] iNil := fun {π N0 H0 N H σ ρ De x C dx fv fs} I h0 hx n0 own cl at0 hH rf q => ⟨_, pss_nil, q H fv (fun a o _ _ h => h) I.hn.pot hH rf⟩
theorem in_chk (he : Snd X e m) (hr : SndIn X c0 rest k) (hs : swapsWith e none pos.line X.env = pure false := by rfl) : SndIn X c0 (.Expr e pos :: rest) (iChk m k) := fun {π N0 H0 N H σ ρ De x C dx fv fs} I h0 hx n0 own cl at0 hH rf q =>
  ⟨_, pss_cons (ps_expr pe_wp hs) pss_wp, he I (T.all_mono (fun d hd => by
    intro v H2 e2 r
    have xp := N_ne I.hn hx
    refine hr (I.ext e2) h0 hx n0 own cl at0 (e2.kp x _ xp hH) (rf.mono e2.kp.hide) (T.all_mono (fun gs g H' gv a b c d => g H' gv (fun y o y1 y2 z => a y o y1 y2 (e2.kp y o y1 z)) b c d) hd)) (T.all_bind.mp q))⟩
theorem in_if (hc : SndT X c mt) (hr : SndIn X c0 rest k) : SndIn X c0 (.If c bd [] pos :: rest) (iIf mt k) := fun {π N0 H0 N H σ ρ De x C dx fv fs} I h0 hx n0 own cl at0 hH rf q =>
  ⟨_, pss_cons (ps_if pt_wp pss_wp pss_nil) pss_wp, hc I (T.all_mono (fun b hb H2 e2 => by
    cases b with
    | true => exact False.elim hb
    | false =>
      have xp := N_ne I.hn hx
      exact iteF (hr (I.ext e2) h0 hx n0 own cl at0 (e2.kp x _ xp hH) (rf.mono e2.kp.hide) (T.all_mono (fun gs g H' gv a b c d => g H' gv (fun y o y1 y2 z => a y o y1 y2 (e2.kp y o y1 z)) b c d) hb))) (T.all_bind.mp q))⟩
theorem in_fld {f x0 : Str} {p pos' : Pos} (he : Snd X e m) (hr : SndIn X c0 rest k) (no : ∀ C, ClsAt X.K c0 C → NoAttr X.K C f) (hN : X.N[0]? = some x0 := by rfl) (hv : Vis X.env.scope x0 := by first | exact Or.inl rfl | exact Or.inr (Or.inl rfl) | exact Or.inr (Or.inr rfl)) (hd : (x0 == ("__debug__" : Str)) = false := by decide)
    (hcd : (x0 == ("__classdict__" : Str)) = false := by decide) (hs : swapsWith e (some (.Attribute (.Name x0 p) f pos')) pos.line X.env = pure false := by rfl) : SndIn X c0 (.Assign [.Attribute (.Name x0 p) f pos'] e pos :: rest) (iFld f m k) := fun {π N0 H0 N H σ ρ De x C dx fv fs} I h0 hx n0 own cl at0 hH rf q =>
  ⟨_, pss_cons (ps_fld (pe_var hN hv hd hcd) pe_wp hs) pss_wp, he I (T.all_mono (fun d hd => by
    intro v H2 e2 r
    obtain ⟨hb, hd⟩ := cond_all hd
    simp only [Bool.and_eq_true, Option.isNone_iff_eq_none, decide_eq_true_eq] at hb
    have xp := N_ne I.hn hx
    have hx2 := e2.kp x _ xp hH
    have rf2 := rf.mono e2.kp.hide
    have hide : ∀ o, Hide N (upd H2 x o) = Hide N H2 := fun o => by
      funext a
      by_cases z : a = x
      · subst z; simp [Hide, hx]
      · unfold Hide; rw [upd_ne z]
    refine ⟨.ref x, h0, x, C, dx, fv, rfl, hx2, cl, no C at0, ?_, ?_⟩
    · have : fv.length = fs.length := by
        have l : ∀ {ds : List (Str × D)} {vs : List (Str × V)}, RvF X.K X.prog X.w π (Hide N H) vs ds → vs.length = ds.length := fun {ds} => by
          induction ds with
          | nil => intro vs r; cases r; rfl
          | cons d ds ih => intro vs r; cases r with | cons _ t => rw [List.length_cons, List.length_cons, ih t]
        exact l rf
      omega
    · refine hr ((I.ext e2).upHid hx n0 (fun j g l' h1 o1 _ => by rw [own j g h1] at o1; cases o1)) h0 hx n0 own cl at0 upd_same (by rw [hide]; exact rf2.add hb.1 r) (T.all_mono (fun gs g H' gv a b c d => g H' gv (fun y o y1 y2 z => a y o y1 y2 (by rw [upd_ne y2]; exact e2.kp y o y1 z)) b c d) hd)) (T.all_bind.mp q))⟩
end
section
variable {P : Program} {w : World} {K : PySem.W.Frag} {mg : Str → Option Value} {base : Heap}
def runI (n : Nat) (k : MI) : List D → T (List (Str × D)) := fun ds => k (Ent.un :: (ds.map Ent.val ++ List.replicate (n - ds.length) Ent.un)) []
/-- an `__init__`, by its body's reading -/
theorem init_ok {qual c : Str} {st : Stmt} {f : Addr} {fd : FuncData} {Nm ps : List Str} {k n p : Nat} {C : Addr} {dvs : List V} {ki : MI} (F : FunD K "__init__" qual (defArgs st) (defBody st) (defScope st) dvs [] f fd) (S : FnScope Nm ps (defScope st)) (hn : Nm.length = n + 1) (hp : ps.length = p + 1) (cl : Cls K C) (at_ : ClsAt K c C)
    (hb : ∀ (cdv : Value) (A : Around) (outer : List Env) (s : Shared) (H : Hp) (E : XK), Room k (A.deeper (PyProof.Rows.envOfC qual (defScope st) s.heap.objs.size f cdv)) → SndIn (cxOf CX0 P w K mg base Nm qual (defScope st) f cdv A outer s H E).nox c (defBody st) ki) :
    FnOk P w K mg base CX0 (k + 1) f fd ps (spI K P w c p (runI n ki)) := by
  refine F.ok (k := k) S (fun vs H Q E h => ?_) (fun cdv A outer s H vs Q E hr h => ?_)
  · obtain ⟨π, N, x, dx, C, args, ds, rfl, hl, _⟩ := h
    rw [List.length_cons, hl, hp]
  · suffices z : wpSs (cxOf CX0 P w K mg base Nm qual (defScope st) f cdv A outer s H E).nox (defBody st) { nx := fun _ H' => Q .non H', rt := Q } (L2.start Nm vs) H by
      obtain ⟨t, a, b⟩ := z
      exact ⟨t, a.nox, b⟩
    obtain ⟨π, N, x, dx, C2, args, ds, rfl, hl, hn2, Nx, hx, hc, ra, hall⟩ := h
    have ec := at_.one hc
    subst ec
    have xpi := N_ne hn2 Nx
    have l1 := ra.length
    have E0 : EnvOk K P w π (minus N x) (fun a => if a = x then none else H a) N H (L2.start Nm (.ref x :: args)) (Ent.un :: (ds.map Ent.val ++ List.replicate (n - ds.length) Ent.un)) := by
      have s0 := env_start (Nm := Nm.drop 1) hn2 ra
      have len : (Nm.drop 1).length = n := by rw [List.length_drop, hn]; rfl
      rw [len] at s0
      have st0 : L2.start Nm (V.ref x :: args) = some (V.ref x) :: L2.start (Nm.drop 1) args := by
        unfold L2.start
        rw [List.map_cons, List.cons_append, len, hn, List.length_cons, show n + 1 - (args.length + 1) = n - args.length by omega]
      rw [st0]
      have J := s0.consUn (some (.ref x))
      refine ⟨J.hn, fun a o n1 h => ?_, fun a h => (minus_in h).1, fun a h => ?_, J.len, J.val, fun j y hy yo => ?_, J.inj⟩
      · by_cases z : a = x
        · subst z; simp at h
        · simpa [z] using h
      · by_cases z : a = x
        · subst z; exact .inr (by simp)
        · exact .inl (minus_of h z)
      · exfalso
        cases j with
        | zero => cases hy; cases yo
        | succ j =>
          have hy' : (ds.map Ent.val ++ List.replicate (n - ds.length) Ent.un)[j]? = some y := hy
          rcases List.mem_append.mp (List.mem_of_getElem? hy') with z | z
          · obtain ⟨d, _, rfl⟩ := List.mem_map.mp z; cases yo
          · rw [(List.mem_replicate.mp z).2] at yo; cases yo
    refine hb cdv A outer s H E hr E0 ?_ Nx minus_self (fun j g hg => ?_) cl at_ hx .nil (T.all_mono (fun gs g H' gv a b c d => g H' gv a b c d) hall)
    · unfold L2.start
      rfl
    · cases j with
      | zero => cases hg; rfl
      | succ j =>
        have hy' : (ds.map Ent.val ++ List.replicate (n - ds.length) Ent.un)[j]? = some g := hg
        rcases List.mem_append.mp (List.mem_of_getElem? hy') with z | z
        · obtain ⟨d, _, rfl⟩ := List.mem_map.mp z; rfl
        · rw [(List.mem_replicate.mp z).2]; rfl
end
end Pd

/-! Attributes and isinstance of any of the program's classes, by promises. -/
namespace Pd
open PySem L2 PySem.Spec PyProof.Rows
/-- the class c has nothing named f of its own, and its objects are plain -/
def AtP (K : PySem.W.Frag) (c f : Str) : Prop := ∃ C, ClsAt K c C ∧ Cls K C ∧ NoAttr K C f
theorem AtP.no {K : PySem.W.Frag} {c f : Str} (h : AtP K c f) : ∀ C, ClsAt K c C → NoAttr K C f := fun C hC => by
  obtain ⟨C2, a, _, n⟩ := h
  have e := a.one hC
  subst e
  exact n
/-- no other class of cs is one of c0 -/
def DfP (K : PySem.W.Frag) (cs : List Str) (c0 : Str) : Prop := ∀ c C C0, cs.contains c = true → (c == c0) = false → ClsAt K c C → ClsAt K c0 C0 → PySem.W.kitOne K (.ref C) (.ref C0) = some false
section
variable {X : Cx} {e : Expr} {m : Rho → T D} {pos : Pos}
theorem s_attrP {c f : Str} (h : AtP X.K c f) (ha : Snd X e m) (hb : attributeBase e f X.env (eval e X.env) = eval e X.env := by rfl) : Snd X (.Attribute e f pos) (eUn (attrD c f) m) :=
  let ⟨_, a, b, n⟩ := h
  s_attr a b n ha hb
theorem s_isinstG (cs : List Str) {c0 : Str} {p p2 : Pos} (kn : KnownC X.K cs) (ic : IcP X.K X.mg c0) (df : DfP X.K cs c0) (hm : X.mg "isinstance" = none) (ha : Snd X e m) (hg : Gl X "isinstance" := by rfl) (hgt : Gl X c0 := by rfl) (hd : (c0 == ("__debug__" : Str)) = false := by decide)
    (he : starEach [e, .Name c0 p] X.env = (false, eval e X.env) :: starEach [.Name c0 p] X.env := by rfl) (he2 : starEach [.Name c0 p] X.env = (false, eval (.Name c0 p) X.env) :: starEach [] X.env := by rfl) (hpl : (backTo pos (starEach [.Name c0 p] X.env)).any (·.1) = false := by rfl) :
    Snd X (.Call (.Name "isinstance" p2) [e, .Name c0 p] [] pos) (eUn (isOC cs c0) m) :=
  let ⟨_, a, b, c⟩ := ic
  s_isinstO cs kn a b (fun c C h1 h2 h3 => df c C _ h1 h2 h3 a) hm c ha hg hgt (by decide +kernel) hd he he2 hpl
end
end Pd

/-! t[::-1], t a tuple. -/
namespace Pd
open PySem L2 PySem.Spec PyProof.Rows HT
section
variable {prog : Program} {w : World} {A : Around} {E : Value → Shared → Prop} {s : Shared}
theorem adj_back (n : Nat) : Builtin.Slice.sliceAdjust none none (-1) (n : Int) = ((n : Int) - 1, -1) := by
  unfold Builtin.Slice.sliceAdjust
  simp
theorem places_back (n : Nat) : Builtin.Slice.slicePlaces ((n : Int) - 1) (-1) (-1) = n := by
  unfold Builtin.Slice.slicePlaces
  have a : ¬ ((-1 : Int) > 0) := by decide
  simp only [a, if_false]
  by_cases h : (n : Int) - 1 > -1
  · rw [if_pos h, show (-(-1) : Int) = 1 by decide, Int.ediv_one]
    omega
  · rw [if_neg h]
    omega
theorem fm_congr {f g : Nat → Option Value} : ∀ {l : List Nat}, (∀ m ∈ l, f m = g m) → l.filterMap f = l.filterMap g
  | [], _ => rfl
  | a :: l, h => by
    rw [List.filterMap_cons, List.filterMap_cons, h a List.mem_cons_self, fm_congr fun m hm => h m (List.mem_cons_of_mem _ hm)]
theorem pick_back (xs : Array Value) : ((List.range xs.size).filterMap fun (m : Nat) => xs[(((xs.size : Nat) : Int) - 1 + (m : Int) * (-1)).toNat]?).toArray = xs.toList.reverse.toArray := by
  rw [← PySem.W.krv_pick]
  unfold slicePick
  rw [PySem.W.krv_bounds]
  show _ = ((sliceRange ((xs.size : Int) - 1) (-1) (-1)).filterMap (xs[·]?)).toArray
  rw [PySem.W.krv_sliceRange, List.filterMap_map]
  congr 1
  refine fm_congr fun m hm => ?_
  have := List.mem_range.mp hm
  show xs[_]? = xs[xs.size - 1 - m]?
  congr 1
  omega
theorem applied_back {sl : Addr} {vs : Value} {n : Nat} {Q : Int × Int × Nat → Shared → Prop} (hs : s.heap.IsSliceOf sl .none .none vs) (ps : IsPart vs (some (-1))) (h : Q ((n : Int) - 1, -1, n) s) : wpAny (model prog w) A (Builtin.Slice.sliceApplied (.ref sl) (pure (n : Int))) Q E s := by
  obtain ⟨os, ho, hc, hd⟩ := id hs
  unfold Builtin.Slice.sliceApplied Builtin.Slice.sliceFields
  refine wpAny_bind (wpAny_bind (wpAny_field ho hd (x := .none) rfl (wpAny_bind (wpAny_field ho hd (x := .none) rfl (wpAny_bind (wpAny_field ho hd (x := vs) rfl (wpAny_pure ?_)))))))
  refine wpAny_bind (slicePart_ ps ?_)
  show wpAny _ _ (if ((-1 : Int) == 0) = true then _ else _) _ _ s
  rw [if_neg (by decide)]
  refine wpAny_bind (slicePart_ .none (wpAny_bind (slicePart_ .none (wpAny_bind (wpAny_pure ?_)))))
  show wpAny _ _ (match Builtin.Slice.sliceAdjust none none (-1) (n : Int) with | (a, b) => pure (a, (-1 : Int), Builtin.Slice.slicePlaces a b (-1))) _ _ s
  rw [adj_back n]
  show wpAny _ _ (pure ((n : Int) - 1, (-1 : Int), Builtin.Slice.slicePlaces ((n : Int) - 1) (-1) (-1))) _ _ s
  rw [places_back]
  exact wpAny_pure h
theorem item_back {t sl : Addr} {items : Array Value} {vs : Value} {Q : Value → Shared → Prop} (ht : IsTup s.heap t items) (hs : s.heap.IsSliceOf sl .none .none vs) (ps : IsPart vs (some (-1)))
    (h : Q (.ref s.heap.objs.size) { s with heap := s.heap.push { cls := .type "tuple", data := .seq items.toList.reverse.toArray } }) (hsz : items.size ≤ sizeLine) : wpAny (model prog w) A (getItem (.ref t) (.ref sl)) Q E s := by
  have room : sizeOk (.seq items.toList.reverse.toArray) := by
    show items.toList.reverse.toArray.size ≤ sizeLine
    simpa using hsz
  obtain ⟨os, ho, hc, hd⟩ := id hs
  have ty : s.TypeIs (.ref sl) "slice" := ⟨os, ho, hc⟩
  unfold getItem
  try with_reducible refine wpAny_holding ?_
  first | refine wpAny_bind (wpAny_pure ?_) | skip
  refine wpAny_bind (wpAny_sequenceKey ht.typeIs (by decide) (wpAny_bind (wpAny_callSpecial?_slot (name := Str.ofString "__getitem__") ht.typeIs PyProof.Rows.slot_tuple_getitem (wpAny_call_entry PyProof.Rows.slot_tuple_getitem ht.typeIs entry_tuple_getitem ?_ (args_tuple_getitem _ _)))))
  show wpAny _ _ (Builtin.Tuple.tupleItemsOf (.ref t) >>= _) _ _ s
  refine wpAny_bind (tupleItemsOf_ ht (wpAny_bind (wpAny_typeOf ty ?_)))
  rw [if_pos (by decide)]
  refine wpAny_bind (applied_back hs ps ?_)
  have no : ¬ ((((items.size : Int) - 1) == 0 && (-1 : Int) == 1 && items.size == items.size) = true) := by
    intro q
    rw [Bool.and_eq_true, Bool.and_eq_true] at q
    exact absurd q.1.2 (by decide)
  show wpAny _ _ (if (((items.size : Int) - 1) == 0 && (-1 : Int) == 1 && items.size == items.size) = true then _ else _) _ _ s
  rw [if_neg no, pick_back]
  first
    | exact wpAny_bind (wpAny_newObj_type (wpAny_pure ⟨_, rfl, wpAny_pure h⟩) room)
    | exact wpAny_bind (m := Builtin.Tuple.tupleExact _) (wpAny_newObj_type (wpAny_bind (wpAny_pure (wpAny_pure ⟨_, rfl, wpAny_pure h⟩))) room)
    | exact wpAny_bind (wpAny_bind (m := Builtin.Tuple.tupleExact _) (wpAny_newObj_type (wpAny_pure (wpAny_pure ⟨_, rfl, wpAny_pure h⟩)) room))
    | exact wpAny_bind (wpAny_bind (m := Builtin.Tuple.tupleExact _) (wpAny_newObj_type (wpAny_pure ⟨_, rfl, wpAny_pure h⟩) room))
end
def eRevT (m : Rho → T D) : Rho → T D := fun ρ => (m ρ).bind fun d => (asTp d).bind fun ds => .ret (.tup ds.reverse)
section
variable {X : Cx} {a : Expr} {ma : Rho → T D} {pos : Pos}
def tRevT (K : PySem.W.Frag) (te : TE) : TE := fun σ H Q => te σ H fun x H1 => ∃ t xs, x = .ref t ∧ SqT K H1 t xs ∧ ∀ p, H1 p = none → Q (.ref p) (upd H1 p (.tup xs.reverse))
theorem pe_revT {e : Expr} {te : TE} {k : Nat} {p1 p2 p3 pos : Pos} (he : PE X e te) : PE X (.Subscript e (.Slice none none (some (.UnaryOp .USub (.Constant (.int 1) k p1) p2)) p3) pos) (tRevT X.K te) := ⟨fun pins s σ H Q J q0 =>
  Subscript_ (thn (he.run pins s σ H _ J q0) fun v s1 ⟨x, H1, J1, r1, q1⟩ => by
    obtain ⟨t, xs, rfl, hx, q⟩ := q1
    cases r1
    have step : PO X (some (.UnaryOp .USub (.Constant (.int 1) k p1) p2)) (tPart (tUn (rU fun i => .int (-i)) (tC (.int 1)))) := po_some (pe_un un_neg pe_int)
    refine wpAny_Slice (thn (po_none.run pins s1 σ H1 (fun o G => o = none ∧ G = H1) J1 ⟨rfl, rfl⟩) fun vl s2 ⟨l, H2, J2, pl, z1, z2⟩ => ?_)
    subst z1 z2
    refine thn (po_none.run pins s2 σ H2 (fun o G => o = none ∧ G = H2) J2 ⟨rfl, rfl⟩) fun vu s3 ⟨u, H3, J3, pu, z3, z4⟩ => ?_
    subst z3 z4
    refine thn (step.run pins s3 σ H3 (fun o G => o = some (-1) ∧ G = H3) J3 ⟨1, rfl, -1, rfl, rfl, rfl⟩) fun vs s4 ⟨o, H4, J4, ps, z5, z6⟩ => ?_
    subst z5 z6
    cases pl
    cases pu
    have J5 : Inv X pins σ H4 { s4 with heap := s4.heap.push { cls := .type "slice", data := .fields #[.none, .none, vs] } } := J4.kept (t' := s4.toks) fun b ob z => Heap.get?_push_of_some _ z
    obtain ⟨its, r, ht, hz⟩ := J5.tuple hx
    have len := r.length
    show wpAny (model X.prog X.w) X.A (subscriptTail e (.Slice none none (some (.UnaryOp .USub (.Constant (.int 1) k p1) p2)) p3) (.ref t) (.ref s4.heap.objs.size)) (EP X pins σ Q) X.xe { s4 with heap := s4.heap.push { cls := .type "slice", data := .fields #[.none, .none, vs] } }
    refine tail_any (ops := [.ref t, .ref s4.heap.objs.size]) ht.typeIs (PyProof.Rows.slot_tuple_getitem.lookup) ?_ (by with_unfolding_all rfl)
    refine item_back ht (Heap.IsSliceOf.new _ .none .none vs) ps ⟨.ref _, _, J5.laid (t' := s4.toks) (o := .tup xs.reverse) (fun b ob z => Heap.get?_push_of_some _ z) (Nat.le_refl _) ?_, rfl, q _ (J5.hok.fresh (Nat.le_refl _))⟩ (by rw [List.size_toArray, ← len]; exact hz)
    exact ⟨by rw [List.length_reverse]; exact hz, _, r.reverse, IsTup.new _ _⟩)⟩
theorem s_revT {k : Nat} {p1 p2 p3 : Pos} (ha : Snd X a ma) : Snd X (.Subscript a (.Slice none none (some (.UnaryOp .USub (.Constant (.int 1) k p1) p2)) p3) pos) (eRevT ma) := fun {π N0 H0 N H σ ρ Q} I h =>
  ⟨_, pe_revT pe_wp, ha I (T.all_mono (fun d hd v H1 e r => by
    cases d with
    | tup ds =>
      have hd2 : Kd X π N H Q (.tup ds.reverse) := T.all_bind.mp hd
      obtain ⟨t, xs, rfl, hx, rx⟩ := id r.tupE
      refine ⟨t, xs, rfl, hx, fun p hp => ?_⟩
      have hn := I.hn.ext e
      exact Kd.new (hd2.up e) hn rx.reverse hp
    | _ => exact False.elim (T.all_bind.mp hd)) (T.all_bind.mp h))⟩
end
end Pd

/-! An own list compared, as a test. -/
namespace Pd
open PySem L2 PySem.Spec PyProof.Rows
section
variable {X : Cx} {b : Expr} {mb : Rho → T D} {pos : Pos}
theorem st_peek {op : CmpOp} {f : D → D → T D} (ho : OpSnd X (compareOp op) f) (i : Nat) (hb : Snd X b mb) {x : Str} {p : Pos} (hm : behindInMarks op b = false) (hN : X.N[i]? = some x := by rfl) (hv : Vis X.env.scope x := by first | exact Or.inl rfl | exact Or.inr (Or.inl rfl) | exact Or.inr (Or.inr rfl)) (hd : (x == ("__debug__" : Str)) = false := by decide)
    (hcd : (x == ("__classdict__" : Str)) = false := by decide) : SndT X (.Compare (.Name x p) [op] [b] pos) (eTest (ePeek f i mb)) := fun {π N0 H0 N H σ ρ Q} I h => by
  have h := T.all_mono (fun _ h => Kd.test (X := X) (N := N) h) (T.all_bind.mp h)
  unfold ePeek at h
  split at h
  · rename_i ds c
    obtain ⟨l, vs, hs1, nl, n0, hl, rl⟩ := I.lst i ds c
    refine ⟨_, pt_cmpR op_wp (pe_var hN hv hd hcd) pe_wp hm, .ref l, hs1, hb I (T.all_mono (fun dy hy => ?_) (T.all_bind.mp h))⟩
    intro u H2 e2 r2
    have lp := N_ne I.hn nl
    have hn2 : HN π (minus N l) H2 := ⟨(I.hn.ext e2).pot, by simp [minus, I.hn.npi], fun a ha => (I.hn.ext e2).isS a (minus_in ha).1⟩
    have less : Kp π (Hide N H2) (Hide (minus N l) H2) := Kp.less fun a ha => (minus_in ha).1
    refine ho hn2 (.lst (by rw [hide_in minus_self]; exact e2.kp l _ lp hl) lp ((rl.mono e2.kp.hide).mono less)) (r2.mono less) (T.all_mono (fun d hd2 => ?_) (T.all_bind.mp hy))
    obtain ⟨bb, rfl, q⟩ := asB_all (T.all_bind.mp hd2)
    intro v H3 e3 r3
    rw [r3.bool]
    exact q (.bl bb) H3 (e2.trans e3) (.bl bb)
  · exact False.elim h
end
end Pd

/-! for .. in zip(a list, a tuple) -/
namespace Pd
open PySem L2 PySem.Spec PyProof.Rows
section
variable {prog : Program} {w : World} {A : Around} {E : Value → Shared → Prop} {s : Shared}
abbrev zy1 (h : Heap) (l : Addr) : Heap := h.push { cls := .type "list_iterator", data := .fields #[.ref l, .int 0 0] }
abbrev zy2 (h : Heap) (l m : Addr) : Heap := (zy1 h l).push { cls := .type "tuple_iterator", data := .fields #[.ref m, .int 0 0] }
abbrev zy3 (h : Heap) (l m : Addr) : Heap := (zy2 h l m).push { cls := .type "tuple", data := .seq #[.ref h.objs.size, .ref (zy1 h l).objs.size] }
abbrev zy4 (h : Heap) (l m : Addr) : Heap := (zy3 h l m).push { cls := .type "tuple", data := .seq #[.none, .none] }
abbrev zy5 (h : Heap) (l m : Addr) : Heap := (zy4 h l m).push { cls := .type "zip", data := .fields #[.none, .bool false, .bool false, .ref (zy2 h l m).objs.size, .ref (zy3 h l m).objs.size] }
theorem zy_new (l m : Addr) (xs ys : Array Value) : Meets (Builtin.«zip.__new__» ⟨[.type "zip", .ref l, .ref m], []⟩) (fun _ R s => s.heap.IsList l xs ∧ s.heap.IsTuple m ys ∧ R (.ok (.ret (.ref (zy4 s.heap l m).objs.size))) { s with heap := zy5 s.heap l m }) :=
  .of_wp fun prog w A R s q => by
    obtain ⟨hp, gs, dr, tk, o⟩ := s; obtain ⟨t1, t2, q⟩ := q
    have sz := sub_zip
    have T1 : Heap.IsList (Shared.heap ⟨hp, gs, dr, tk, o⟩) l xs := t1
    have T2 : Heap.IsTuple (Shared.heap ⟨hp.push { cls := .type "list_iterator", data := .fields #[.ref l, .int 0 0] }, gs, dr, tk, o⟩) m ys := by
      obtain ⟨o', g, r⟩ := id t2
      exact ⟨o', Heap.get?_push_of_some _ g, r⟩
    wp_walk using wpAny_pyIter_list T1, wpAny_pyIter_tuple T2
    exact ⟨_, rfl, q⟩
theorem call_zy {l m : Addr} {xs ys : Array Value} {Q : Value → Shared → Prop} (t1 : s.heap.IsList l xs) (t2 : s.heap.IsTuple m ys)
    (q : ∀ h', IsZip h' (s.heap.objs.size + 4) (s.heap.objs.size + 2) (s.heap.objs.size + 3) .none → IsPair h' (s.heap.objs.size + 2) (.ref s.heap.objs.size) (.ref (s.heap.objs.size + 1)) → IsPair h' (s.heap.objs.size + 3) .none .none → h'.IsListIter s.heap.objs.size l 0 → h'.IsTupleIter (s.heap.objs.size + 1) m 0 → (∀ c o, s.heap.get? c = some o → h'.get? c = some o) → Q (.ref (s.heap.objs.size + 4)) { s with heap := h' }) :
    wpAny (model prog w) A (call (.type "zip") [.ref l, .ref m]) Q E s := by
  refine callType_new F.called_zip (by decide) (F.typeCall_zip_2 _ _) (F.newCall_zip_2 _ _) (fun obj => F.args_object_init_3 obj _ _) F.entry_zip_new (zy_new l m xs ys) ⟨t1, t2, ?_⟩
  have n1 : (zy1 s.heap l).objs.size = s.heap.objs.size + 1 := Heap.size_push ..
  have n2 : (zy2 s.heap l m).objs.size = s.heap.objs.size + 2 := (Heap.size_push ..).trans (by rw [n1])
  have n3 : (zy3 s.heap l m).objs.size = s.heap.objs.size + 3 := (Heap.size_push ..).trans (by rw [n2])
  have n4 : (zy4 s.heap l m).objs.size = s.heap.objs.size + 4 := (Heap.size_push ..).trans (by rw [n3])
  have up := fun (h : Heap) (o : Obj) {c : Addr} {o' : Obj} (z : h.get? c = some o') => Heap.get?_push_of_some o z
  have k5 : (zy5 s.heap l m).get? (zy4 s.heap l m).objs.size = some _ := Heap.get?_push_size _ rfl
  have k4 : (zy5 s.heap l m).get? (zy3 s.heap l m).objs.size = some _ := up _ _ (Heap.get?_push_size _ rfl)
  have k3 : (zy5 s.heap l m).get? (zy2 s.heap l m).objs.size = some _ := up _ _ (up _ _ (Heap.get?_push_size _ rfl))
  have k2 : (zy5 s.heap l m).get? (zy1 s.heap l).objs.size = some _ := up _ _ (up _ _ (up _ _ (Heap.get?_push_size _ rfl)))
  have k1 : (zy5 s.heap l m).get? s.heap.objs.size = some _ := up _ _ (up _ _ (up _ _ (up _ _ (Heap.get?_push_size _ rfl))))
  refine show _ ∧ _ from ?_
  rw [n2, n3, n4] at k5
  rw [n1, n2] at k3
  rw [n3] at k4
  rw [n1] at k2
  rw [n4]
  exact ⟨⟨_, k5, rfl⟩, q _ k5 k3 k4 ⟨_, k1, rfl, rfl⟩ ⟨_, k2, rfl, rfl⟩ fun c o z => up _ _ (up _ _ (up _ _ (up _ _ (up _ _ z))))⟩
end
/-- a list at a and a tuple at b, walked together -/
def ItzY (K : PySem.W.Frag) (a b : Addr) : It where
  go i H := ∃ (xs ys : List V) (x y : V), SqL K H a xs ∧ SqT K H b ys ∧ xs[i]? = some x ∧ ys[i]? = some y
  yld i H v H' := ∃ T x y, v = .ref T ∧ H T = none ∧ H' = upd H T (.tup [x, y]) ∧ (∀ xs, SqL K H a xs → xs[i]? = some x) ∧ ∀ ys, SqT K H b ys → ys[i]? = some y
  stop i H := ∃ xs ys : List V, SqL K H a xs ∧ SqT K H b ys ∧ (xs.length ≤ i ∨ ys.length ≤ i)
theorem turn_zy {P : Program} {w : World} {K : PySem.W.Frag} {elts : List Expr} {kk : Nat} {tpos : Pos} {a b Z I O p1 p2 : Addr} (D : ZipApart Z I O p1 p2 a b) :
    Turn P w K (.Tuple elts kk tpos) (ItzY K a b) [Z, I, O, p1, p2] Z (fun i h => IsZip h Z I O .none ∧ IsPair h I (.ref p1) (.ref p2) ∧ (∃ x y, IsPair h O x y) ∧ h.IsListIter p1 a i ∧ h.IsTupleIter p2 b i) where
  mem := List.mem_cons_self
  obj := fun i h st c hc => by
    obtain ⟨gz, gI, ⟨x, y, gO⟩, f1, f2⟩ := st
    rcases five hc with q | q | q | q | q <;> subst q
    · exact ⟨_, gz, nofun⟩
    · exact ⟨_, gI, nofun⟩
    · exact ⟨_, gO, nofun⟩
    · exact feedL.obj f1
    · exact feedT.obj f2
  keep := fun i h h' st kp => by
    obtain ⟨gz, gI, ⟨x, y, gO⟩, f1, f2⟩ := st
    exact ⟨kp Z (by simp) _ gz, kp I (by simp) _ gI, ⟨x, y, kp O (by simp) _ gO⟩, feedL.same f1 fun o => kp p1 (by simp) o, feedT.same f2 fun o => kp p2 (by simp) o⟩
  item := by
    intro X eP ew eK calm i pins s σ H E J fp st go
    subst eP ew eK
    obtain ⟨gz, gI, ⟨u0, v0, gO⟩, f1, f2⟩ := st
    obtain ⟨xs, ys, x, y, qa, qb, hx, hy⟩ := go
    obtain ⟨its, rv, t1, _⟩ := J.list qa
    obtain ⟨its2, rv2, t2, _⟩ := J.tuple qb
    obtain ⟨u, hu, ru⟩ := rv.get hx
    obtain ⟨v, hv, rv'⟩ := rv2.get hy
    have ltZ : Z < s.heap.objs.size := Heap.lt_size gz
    refine zg_next feedL feedT D gz gI gO f1 f2 t1.isList (show s.heap.IsTuple b its2.toArray from t2) (x := u) (y := v) (by simpa using hu) (by simpa using hv) fun b1 gz1 gO1 f1b f2b gT size kp => ?_
    refine ⟨_, rfl, wpAny_letOwnedTupleGo_zip (s := { s with heap := b1 }) gz1 fun b2 gz2 but => ?_⟩
    have gT2 : b2.get? s.heap.objs.size = some { cls := .type "tuple", data := .seq #[u, v] } := (but.2 _ (Nat.ne_of_gt ltZ)).trans gT
    have made : ObjOk X.prog X.w (upd H s.heap.objs.size (.tup [x, y])) b2 s.heap.objs.size (.tup [x, y]) := ⟨by show 2 ≤ sizeLine; decide, [u, v], .cons ru (.cons rv' .nil), ⟨_, gT2, rfl, _, rfl⟩⟩
    have away : ∀ c o, c ∉ [Z, I, O, p1, p2] → s.heap.get? c = some o → b2.get? c = some o := fun c o n q => (but.2 c fun z => n (by simp [z])).trans (kp c o (fun z => n (by simp [z])) (fun z => n (by simp [z])) (fun z => n (by simp [z])) (fun z => n (by simp [z])) q)
    have J1 : Inv X pins σ (upd H s.heap.objs.size (.tup [x, y])) { s with heap := b2 } := J.turnedNew (t' := s.toks) away fp (Nat.le_refl _) made
    refine ⟨.ref s.heap.objs.size, _, J1, rfl, ⟨_, x, y, rfl, J.hok.fresh (Nat.le_refl _), rfl, fun l hl => by rw [J.list_inj hl qa]; exact hx, fun l hl => by rw [J.tuple_inj hl qb]; exact hy⟩, ⟨gz2, (but.2 _ D.TIz).trans (kp _ _ D.TIz D.TITO D.TIi1 D.TIi2 gI), ⟨u, v, (but.2 _ D.TOz).trans gO1⟩, feedL.same f1b fun o q => (but.2 _ D.i1z).trans q, feedT.same f2b fun o q => (but.2 _ D.i2z).trans q⟩, fun c hc => ?_⟩
    have lt : c < s.heap.objs.size := by
      rcases five hc with q | q | q | q | q <;> subst q
      · exact ltZ
      · exact Heap.lt_size gI
      · exact Heap.lt_size gO
      · exact Heap.lt_size f1.choose_spec.1
      · exact Heap.lt_size f2.choose_spec.1
    rw [upd_ne (Nat.ne_of_lt lt)]
    exact (fp c hc).1
  done := by
    intro X eP ew eK calm i pins s σ H E J fp st stop
    subst eP ew eK
    obtain ⟨gz, gI, ⟨u0, v0, gO⟩, f1, f2⟩ := st
    obtain ⟨xs, ys, qa, qb, en⟩ := stop
    obtain ⟨its, rv, t1, _⟩ := J.list qa
    obtain ⟨its2, rv2, t2, _⟩ := J.tuple qb
    have l1 := rv.length
    have l2 := rv2.length
    have none : its.toArray[i]? = none ∨ its2.toArray[i]? = none := en.imp (fun q => by simp; omega) fun q => by simp; omega
    exact zg_end feedL feedT (J.ok.hd calm) D gz gI gO f1 f2 t1.isList (show s.heap.IsTuple b its2.toArray from t2) none fun b1 kp => ⟨rfl, J.turnedL (t' := s.toks) (ch := [Z, I, O, p1, p2]) (fun c o n q => kp c o (fun z => n (by simp [z])) (fun z => n (by simp [z])) (fun z => n (by simp [z])) (fun z => n (by simp [z])) q) fp⟩
  self := fun A i s Q E st h => wpAny_pyIter_zip st.1 h
def iZipY (K : PySem.W.Frag) (ta : TA) : L2.TI := fun σ H R => ta σ H fun vs H1 => ∃ a b xs ys, vs = [.ref a, .ref b] ∧ SqL K H1 a xs ∧ SqT K H1 b ys ∧ R (ItzY K a b) H1
theorem pi_zipY {X : Cx} {e e2 : Expr} {ta : TA} {p pos tpos : Pos} {elts : List Expr} {kk : Nat} (hg : Gl X "zip") (hm : X.mg "zip" = none) (ha : PA X [e, e2] ta)
    (hs : starEach [e, e2] X.env = (false, eval e X.env) :: starEach [e2] X.env := by rfl) (hpl : (backTo pos (starEach [e2] X.env)).any (·.1) = false := by rfl) :
    PI X (.Tuple elts kk tpos) (.Call (.Name "zip" p) [e, e2] [] pos) (iZipY X.K ta) := by
  refine ⟨fun pins s σ H R J h => Call_ (ld_blt J hg hm PyProof.Rows.boot_zip (PyProof.Rows.callWith_type1 (thn (ha.run pos pins s σ H _ J h) fun us s1 ⟨vs, H1, J1, r1, q1⟩ => ?_) hs hpl))⟩
  obtain ⟨a, b, xs, ys, rfl, qa, qb, q⟩ := q1
  obtain ⟨u1, u2, rfl, r, r'⟩ := vals2 r1
  cases r
  cases r'
  obtain ⟨its, rv, t1, _⟩ := J1.list qa
  obtain ⟨its2, rv2, t2, _⟩ := J1.tuple qb
  have ltb : b < s1.heap.objs.size := by obtain ⟨o1, g, _⟩ := id t2; exact Heap.lt_size g
  refine call_zy t1.isList (show s1.heap.IsTuple b its2.toArray from t2) fun b1 gz gI gO f1 f2 kp => wpAny_pyIter_zip gz ?_
  have J2 : Inv X pins σ H1 { s1 with heap := b1 } := J1.kept (t' := s1.toks) kp
  refine ⟨s1.heap.objs.size + 4, [s1.heap.objs.size + 4, s1.heap.objs.size + 2, s1.heap.objs.size + 3, s1.heap.objs.size, s1.heap.objs.size + 1], _, _, H1, rfl, J2, turn_zy (PySem.W.ktu_apart s1.heap.objs.size a b t1.lt ltb), ⟨gz, gI, ⟨_, _, gO⟩, f1, f2⟩, fun c hc => ?_, q⟩
  have le : s1.heap.objs.size ≤ c := by
    rcases five hc with z | z | z | z | z <;> rw [z] <;> omega
  exact J1.fpOk le (J1.hok.fresh le)
/-- zip of a list and a tuple -/
def zipY : List D → T (List D)
  | [.lst as, .tup bs] => .ret (zipD as bs)
  | _ => .fail
section
variable {X : Cx} {a b : Expr} {pos : Pos}
theorem walk_zipY {π : Addr} {N : Addr → Bool} {H : Hp} {a b : Addr} {as bs : List D} {us : List V} (hb : H a = some (.lst us)) (nb : N a = false) (bp : a ≠ π) (rb : RvL X.K X.prog X.w π (Hide N H) us as) (r : Rv X.K X.prog X.w π (Hide N H) (.ref b) (.tup bs)) : Walk X π (Hide N H) (ItzY X.K a b) (zipD as bs) := fun N' H' i hn k => by
  obtain ⟨a', vs, e, _, sq, _, ra⟩ := sqt_kp k r
  cases e
  obtain ⟨nb', hb'⟩ := vis_some k nb bp hb
  have sq2 : SqL X.K H' a us := .inl (.inl hb')
  have rb' := rb.mono k
  refine ⟨fun d hd => ?_, fun e => ⟨us, vs, sq2, sq, ?_⟩⟩
  · obtain ⟨x, y, hx, hy, rfl⟩ := zipD_get hd
    obtain ⟨u, hu, ru⟩ := rb'.get hx
    obtain ⟨v, hv, rv⟩ := ra.get hy
    refine ⟨⟨us, vs, u, v, sq2, sq, hu, hv⟩, fun z H2 q => ?_⟩
    obtain ⟨T, x', y', rfl, hT, rfl, g1, g2⟩ := q
    have e1 := g1 us sq2
    have e2 := g2 vs sq
    rw [hu] at e1
    rw [hv] at e2
    cases e1; cases e2
    have nw := Ex.new (o := .tup [u, v]) hn.pot hT
    exact ⟨nw, .tup (hide_new (hn.new hT)) (hn.pot.ne hT) (.cons (ru.mono nw.kp.hide) (.cons (rv.mono nw.kp.hide) .nil))⟩
  · rw [zipD_len] at e
    rw [ra.length, rb.length]
    omega
theorem si_zipY {ms : Rho → T (List D)} {p tpos : Pos} {elts : List Expr} {kk : Nat} (hm : X.mg "zip" = none) (ha : SndA X [a, b] ms) (hg : Gl X "zip" := by rfl) (hs : starEach [a, b] X.env = (false, eval a X.env) :: starEach [b] X.env := by rfl) (hpl : (backTo pos (starEach [b] X.env)).any (·.1) = false := by rfl) :
    SndI X (.Tuple elts kk tpos) (.Call (.Name "zip" p) [a, b] [] pos) (iRg zipY ms) := fun {π N0 H0 N H σ ρ R} I h => ⟨_, pi_zipY hg hm pa_wp hs hpl, ha I (T.all_mono (fun ds hd => by
    intro vs H2 e2 r
    unfold zipY at hd
    split at hd
    · cases r with
      | cons r t => cases t with
        | cons r2 t =>
          cases t
          obtain ⟨b, us, rfl, hb, nb, bp, rb⟩ := id r.lstE
          obtain ⟨a, vs, rfl, ha, ra⟩ := id r2.tupE
          exact ⟨b, a, us, vs, rfl, .inl (.inl hb), ha, hd _ _ e2 (walk_zipY hb nb bp rb r2)⟩
    · exact False.elim hd) (T.all_bind.mp h))⟩
end
end Pd

/-! x in xs, xs.index(x) of whole numbers; a comprehension over an own list, which stays own. -/
namespace Pd
open PySem L2 PySem.Spec PyProof.Rows
section
variable {X : Cx} {a b e : Expr} {ma mb me : Rho → T D} {pos : Pos}
def opIn : D → D → T D
  | .int i, .lst ds => match intsOf ds with
    | some ns => .ret (.bl (ns.contains i))
    | none => .fail
  | _, _ => .fail
def opNotIn : D → D → T D
  | .int i, .lst ds => match intsOf ds with
    | some ns => .ret (.bl (!ns.contains i))
    | none => .fail
  | _, _ => .fail
theorem inV_ints (i : Int) : ∀ ns : List Int, inV (.int i) (ns.map V.int) = ns.contains i
  | [] => rfl
  | n :: ns => by
    show ((n == i) || inV (.int i) (ns.map V.int)) = (i == n || ns.contains i)
    rw [inV_ints i ns]
    congr 1
    exact Bool.beq_comm
theorem flat_ints : ∀ ns : List Int, (ns.map V.int).all flatV = true
  | [] => rfl
  | n :: ns => by
    show (true && (ns.map V.int).all flatV) = true
    rw [flat_ints ns]
    rfl
theorem os_in : OpSnd X (compareOp .In) opIn := fun {π N H x y dx dy Q} hn rx ry h => by
  unfold opIn at h
  split at h
  · rename_i i ds
    cases q : intsOf ds with
    | none => rw [q] at h; exact False.elim h
    | some ns =>
      rw [q] at h
      cases rx
      obtain ⟨p, vs, rfl, hp, _, _, rv⟩ := id ry.lstE
      have e := ints_rv rv q
      refine ⟨_, op_in_seq, p, vs, rfl, .inl (.inl (.inl hp)), rfl, by rw [e]; exact flat_ints ns, ?_⟩
      rw [e]
      show Q (.bl (inV (.int i) (ns.map V.int))) H
      rw [inV_ints]
      exact h _ _ (Ex.refl hn.pot) (.bl _)
  · exact False.elim h
theorem os_notIn : OpSnd X (compareOp .NotIn) opNotIn := fun {π N H x y dx dy Q} hn rx ry h => by
  unfold opNotIn at h
  split at h
  · rename_i i ds
    cases q : intsOf ds with
    | none => rw [q] at h; exact False.elim h
    | some ns =>
      rw [q] at h
      cases rx
      obtain ⟨p, vs, rfl, hp, _, _, rv⟩ := id ry.lstE
      have e := ints_rv rv q
      refine ⟨_, op_notIn_seq, p, vs, rfl, .inl (.inl (.inl hp)), rfl, by rw [e]; exact flat_ints ns, ?_⟩
      rw [e]
      show Q (.bl (!(inV (.int i) (ns.map V.int)))) H
      rw [inV_ints]
      exact h _ _ (Ex.refl hn.pot) (.bl _)
  · exact False.elim h
/-- the first place of a number -/
def ixOf (i : Int) : List Int → Option Nat
  | [] => none
  | n :: ns => if n = i then some 0 else (ixOf i ns).map (· + 1)
theorem ixOf_some {i : Int} : ∀ {ns : List Int} {j : Nat}, ixOf i ns = some j → ns[j]? = some i ∧ ∀ m z, m < j → ns[m]? = some z → z ≠ i
  | [], _, h => by cases h
  | n :: ns, j, h => by
    unfold ixOf at h
    by_cases q : n = i
    · rw [if_pos q] at h
      cases h
      exact ⟨by rw [q]; rfl, fun m z hm => absurd hm (Nat.not_lt_zero _)⟩
    · rw [if_neg q] at h
      obtain ⟨k, hk, rfl⟩ := Option.map_eq_some_iff.mp h
      obtain ⟨a, b⟩ := ixOf_some hk
      refine ⟨a, fun m z hm hz => ?_⟩
      cases m with
      | zero => cases hz; exact q
      | succ m => exact b m z (by omega) hz
def eIdx (ma mb : Rho → T D) : Rho → T D := fun ρ => (ma ρ).bind fun d => (asL d).bind fun ds => (mb ρ).bind fun y => match y with
  | .int i => match intsOf ds with
    | some ns => match ixOf i ns with
      | some j => .ret (.int (j : Int))
      | none => .fail
    | none => .fail
  | _ => .fail
theorem s_idx {apos cpos : Pos} (ha : Snd X a ma) (hb : Snd X b mb) (hbase : attributeBase a "index" X.env (eval a X.env) = eval a X.env := by rfl)
    (hfew : ((((backTo cpos (starEach [b] X.env)).all fun x => !x.fst) && (backToKw cpos (keywordEach [] X.env)).all fun x => x.fst.isSome) && decide (([b].length + ([] : List Keyword).length + if ([] : List Keyword).isEmpty = true then 0 else 1) < 30)) = true := by rfl) (hline : (apos.endLine == cpos.line) = true := by rfl)
    (hse : starEach [b] X.env = (false, eval b X.env) :: starEach [] X.env := by rfl) (hpl : (backTo cpos (starEach [] X.env)).any (·.1) = false := by rfl) : Snd X (.Call (.Attribute a "index" apos) [b] [] cpos) (eIdx ma mb) := fun {π N0 H0 N H σ ρ Q} I h => by
  refine ⟨_, pe_bm PySem.F.plainAttrs_list PySem.F.slot_list_index PySem.F.type_list_index mt_index pe_wp (pa_cons pe_wp pa_nil hse) (hbase := hbase) (hfew := hfew) (hline := hline) (hs := hse) (hplain := hpl), ?_⟩
  refine ha I (T.all_mono (fun d hd => ?_) (T.all_bind.mp h))
  intro v H1 e1 r1
  obtain ⟨ds, rfl, hd⟩ := asL_all (T.all_bind.mp hd)
  obtain ⟨p, vs, rfl, hp, _, np, rv⟩ := id r1.lstE
  refine ⟨.inl ⟨rfl, _, SqL.of hp⟩, hb (I.ext e1) (T.all_mono (fun y hy => ?_) (T.all_bind.mp hd))⟩
  intro u H2 e2 r2
  cases y with
  | int i =>
    cases r2
    cases q : intsOf ds with
    | none => simp only [q] at hy; exact False.elim hy
    | some ns =>
      simp only [q] at hy
      cases q2 : ixOf i ns with
      | none => simp only [q2] at hy; exact False.elim hy
      | some j =>
        simp only [q2] at hy
        obtain ⟨g1, g2⟩ := ixOf_some q2
        have e := ints_rv rv q
        have hp2 := e2.kp p _ np hp
        refine ⟨p, vs, .int i, j, .int i, rfl, rfl, .inl (.inl hp2), rfl, by rw [e]; exact flat_ints ns, ?_, by show (i == i) = true; exact BEq.rfl, fun m z hm hz => ?_, hy _ _ (e1.trans e2) (.int _)⟩
        · rw [e, List.getElem?_map, g1]
          rfl
        · rw [e, List.getElem?_map] at hz
          obtain ⟨n, hn, rfl⟩ := Option.map_eq_some_iff.mp hz
          show (n == i) = false
          exact beq_false_of_ne (g2 m n hm hn)
  | _ => exact False.elim hy
end
/-! own lists walked by comprehensions -/
section
variable (X : Cx)
/-- as Walk, where all that was there stays -/
def WalkO (π : Addr) (N0 : Addr → Bool) (B : Hp) (J : It) (ds : List D) : Prop := ∀ (N : Addr → Bool) (H : Hp) (i : Nat), HN π N H → Kp π B H → Kp π (Hide N0 B) (Hide N H) →
  (∀ d, ds[i]? = some d → J.go i H ∧ ∀ x H', J.yld i H x H' → Ex π H H' ∧ Rv X.K X.prog X.w π (Hide N H') x d) ∧ (i = ds.length → J.stop i H)
def SndIO (tg it : Expr) (m : Rho → T (List D)) : Prop := ∀ ⦃π : Addr⦄ ⦃N0 : Addr → Bool⦄ ⦃H0 : Hp⦄ ⦃N : Addr → Bool⦄ ⦃H : Hp⦄ ⦃σ : L2.St⦄ ⦃ρ : Rho⦄ ⦃R : It → Hp → Prop⦄, EnvOk X.K X.prog X.w π N0 H0 N H σ ρ →
  (m ρ).all (fun ds => ∀ J H2, Ex π H H2 → WalkO X π N H2 J ds → R J H2) → wpI X tg it σ H R
end
def iOwn (i : Nat) : Rho → T (List D) := fun ρ => match ρ[i]? with
  | some (.own ds) => .ret ds
  | _ => .fail
section
variable {X : Cx} {tg : Expr}
theorem si_own (i : Nat) {x : Str} {p : Pos} (hN : X.N[i]? = some x := by rfl) (hv : Vis X.env.scope x := by first | exact Or.inl rfl | exact Or.inr (Or.inl rfl) | exact Or.inr (Or.inr rfl)) (hd : (x == ("__debug__" : Str)) = false := by decide)
    (hcd : (x == ("__classdict__" : Str)) = false := by decide) : SndIO X tg (.Name x p) (iOwn i) := fun {π N0 H0 N H σ ρ R} I h => by
  unfold iOwn at h
  split at h
  · rename_i ds c
    obtain ⟨l, vs, hs1, nl, n0, hl, rl⟩ := I.lst i ds c
    refine ⟨_, pi_list (pe_var hN hv hd hcd), .ref l, hs1, l, rfl, ⟨vs, .inl (.inl hl)⟩, h _ _ (Ex.refl I.hn.pot) fun N' H' j hn kp k => ?_⟩
    have hl' := kp l _ (N_ne I.hn nl) hl
    have sq : SqL X.K H' l vs := .inl (.inl hl')
    refine ⟨fun d hd => ?_, fun e => ⟨vs, sq, by rw [rl.length, e]; exact Nat.le_refl _⟩⟩
    obtain ⟨v, hv, rv⟩ := rl.get hd
    refine ⟨⟨vs, v, sq, hv⟩, fun x H2 y => ?_⟩
    obtain ⟨rfl, y⟩ := y
    have := y vs sq
    rw [hv] at this
    cases this
    exact ⟨Ex.refl hn.pot, rv.mono k⟩
  · exact False.elim h
end
section
variable {X : Cx}
theorem lc_runO {π : Addr} {N0 N : Addr → Bool} {H0 H : Hp} {σ : L2.St} {ρ : Rho} {Q : VK} {tg it elt : Expr} {ifs : List Expr} {scope : Scope} {vs : List Nat} {mi : Rho → T (List D)} {g : D → Rho → T Rho} {mt : Rho → T Bool} {me : Rho → T D}
    (hi : SndIO X tg it mi) (hg : ∀ s Hh C cl fp, SndGw (X.blk s Hh scope (compEnvC scope cl C X.env) fp) vs tg g) (ht : ∀ s Hh C cl fp, SndTs (X.blk s Hh scope (compEnvC scope cl C X.env) fp) ifs mt) (he : ∀ s Hh C cl fp, Snd (X.blk s Hh scope (compEnvC scope cl C X.env) fp) elt me)
    (I : EnvOk X.K X.prog X.w π N0 H0 N H σ ρ) (h : (lComp vs mi g mt me ρ).all (Kl X π N H Q)) : tLc (wpI X tg it) (bG X scope tg) (bT X scope ifs) (bE X scope elt) vs σ H Q := by
  refine hi I (T.all_mono (fun ds hds J H2 e2 wk => ?_) (T.all_bind.mp h))
  intro Dl hD
  have I2 := I.ext e2
  have hD0 : H Dl = none := by
    cases c : H Dl with
    | none => rfl
    | some o => rw [e2.kp Dl o (I2.hn.pot.ne hD) c] at hD; cases hD
  have eN : Ex π H2 (upd H2 Dl (.lst [])) := Ex.new I2.hn.pot hD
  have dpi := I2.hn.pot.ne hD
  have I3 : EnvOk X.K X.prog X.w π N0 H0 (plus N Dl) (upd H2 Dl (.lst [])) (wipe σ vs) (wipeR ρ vs) := wipe_ok (I2.hideNew eN hD upd_same ⟨[], .nil⟩) vs
  have n0 : N0 Dl = false := by
    cases c : N0 Dl with
    | false => rfl
    | true =>
      have := I2.hn.new hD
      rw [I2.sub Dl c] at this
      cases this
  -- no name holds the new list
  have no : ∀ (j : Nat) (f : Ent) (l' : Addr), (wipeR ρ vs)[j]? = some f → f.isOwn = true → (wipe σ vs)[j]? = some (some (.ref l')) → l' ≠ Dl := fun j f l' h1 o1 s1 => by
    have W := wipe_ok I2 vs
    have nD : ∀ {o : HO}, H2 l' = some o → l' ≠ Dl := fun {o} h z => by rw [z, hD] at h; cases h
    obtain ⟨l2, o2, a, _, _, b, _⟩ := W.own j f h1 o1
    rw [s1] at a
    cases a
    exact nD b
  refine ⟨fun i k H' => k = ds.length - i ∧ i ≤ ds.length ∧ ∃ acc accD, EnvOk X.K X.prog X.w π N0 H0 (plus N Dl) H' (wipe σ vs) (wipeR ρ vs) ∧ Kp π H2 H' ∧ H' Dl = some (.lst acc) ∧ RvL X.K X.prog X.w π (Hide (plus N Dl) H') acc accD ∧ (compT g mt me (wipeR ρ vs) (ds.drop i) accD).all (Kl X π N H Q),
    ⟨ds.length, rfl, Nat.zero_le _, [], [], I3, eN.kp, upd_same, .nil, hds⟩, ?_⟩
  rintro i k H' ⟨rfl, hle, acc, accD, I', kp, hDl, rl, hall⟩
  have vis : Kp π (Hide N H2) (Hide (plus N Dl) H') := fun a o n q => by
    obtain ⟨na, ha⟩ := hide_some q
    have ne : a ≠ Dl := fun z => by rw [z, hD] at ha; cases ha
    rw [hide_in (by simp [plus, na, ne])]
    exact kp a o n ha
  have w := wk (plus N Dl) H' i I'.hn kp vis
  by_cases hlt : i < ds.length
  · have hget : ds[i]? = some ds[i] := List.getElem?_eq_getElem hlt
    obtain ⟨go, yl⟩ := w.1 _ hget
    rw [List.drop_eq_getElem_cons hlt] at hall
    refine .inr ⟨go, fun H'' => ∃ acc accD, EnvOk X.K X.prog X.w π N0 H0 (plus N Dl) H'' (wipe σ vs) (wipeR ρ vs) ∧ Kp π H2 H'' ∧ H'' Dl = some (.lst acc) ∧ RvL X.K X.prog X.w π (Hide (plus N Dl) H'') acc accD ∧ (compT g mt me (wipeR ρ vs) (ds.drop (i + 1)) accD).all (Kl X π N H Q), fun H'' q => ⟨ds.length - (i + 1), by omega, rfl, hlt, q⟩, fun x H'' y => ?_⟩
    obtain ⟨e3, rx⟩ := yl x H'' y
    have I4 := I'.ext e3
    refine fun s Hh C cl fp => wpG_mono (hg s Hh C cl fp (Q := fun σ2 H2' => bT X scope ifs σ2 H2' fun b H3 => if b = true then bE X scope elt σ2 H3 fun y H4 => ∃ acc, H4 Dl = some (.lst acc) ∧ acc.length < sizeLine ∧
      (∃ acc' accD, EnvOk X.K X.prog X.w π N0 H0 (plus N Dl) (upd H4 Dl (.lst (acc ++ [y]))) (wipe σ vs) (wipeR ρ vs) ∧ Kp π H2 (upd H4 Dl (.lst (acc ++ [y]))) ∧ (upd H4 Dl (.lst (acc ++ [y]))) Dl = some (.lst acc') ∧ RvL X.K X.prog X.w π (Hide (plus N Dl) (upd H4 Dl (.lst (acc ++ [y])))) acc' accD ∧ (compT g mt me (wipeR ρ vs) (ds.drop (i + 1)) accD).all (Kl X π N H Q))
      else ∃ acc' accD, EnvOk X.K X.prog X.w π N0 H0 (plus N Dl) H3 (wipe σ vs) (wipeR ρ vs) ∧ Kp π H2 H3 ∧ H3 Dl = some (.lst acc') ∧ RvL X.K X.prog X.w π (Hide (plus N Dl) H3) acc' accD ∧ (compT g mt me (wipeR ρ vs) (ds.drop (i + 1)) accD).all (Kl X π N H Q))
      (I4 : EnvOk X.K X.prog X.w π N0 H0 (plus N Dl) H'' (wipe σ vs) (wipeR ρ vs)) rx (T.all_mono (fun ρ2 h2 => ?_) (T.all_bind.mp hall))) fun σ' H' q => ⟨q.1.trans wipe_wipe, q.2⟩
    intro σ2 I5 s Hh C cl fp
    refine ht s Hh C cl fp I5 (T.all_mono (fun b hb => ?_) (T.all_bind.mp h2))
    intro H5 e5
    have e35 := e3.trans e5
    cases b with
    | false => exact iteF ⟨acc, accD, I4.ext e5, kp.trans e35.kp, e35.kp Dl _ dpi hDl, rl.mono e35.kp.hide, hb⟩
    | true =>
      refine iteT fun s Hh C cl fp => he s Hh C cl fp (I5.ext e5 : EnvOk X.K X.prog X.w π N0 H0 (plus N Dl) H5 σ2 ρ2) (T.all_mono (fun y hy => ?_) (T.all_bind.mp hb))
      intro v H6 e6 rv
      obtain ⟨hsm, hy⟩ := cond_all hy
      have e36 := e35.trans e6
      have hD6 := e36.kp Dl _ dpi hDl
      have hd : Hide (plus N Dl) (upd H6 Dl (.lst (acc ++ [v]))) = Hide (plus N Dl) H6 := by
        funext a
        by_cases q : a = Dl
        · subst q; simp [Hide, plus]
        · unfold Hide; rw [upd_ne q]
      refine ⟨acc, hD6, by rw [rl.length]; exact Nat.lt_of_le_of_lt (of_decide_eq_true hsm) (by decide), acc ++ [v], accD ++ [y], ((I4.ext (e5.trans e6)).upHid plus_self n0 no), ?_, upd_same, ?_, hy⟩
      · intro a o n q
        have ne : a ≠ Dl := fun z => by rw [z, hD] at q; cases q
        rw [upd_ne ne]
        exact (kp.trans e36.kp) a o n q
      · rw [hd]
        exact (rl.mono e36.kp.hide).append (.cons rv .nil)
  · have e : i = ds.length := by omega
    subst e
    rw [List.drop_length] at hall
    exact .inl ⟨w.2 rfl, hall Dl acc H' ⟨e2.kp.trans kp, I'.hn.pot⟩ hD0 hDl rl⟩
end
section
variable {X : Cx} {tg it elt : Expr} {ifs : List Expr} {scope : Scope} {pos : Pos} {mi : Rho → T (List D)} {g : D → Rho → T Rho} {mt : Rho → T Bool} {me : Rho → T D}
theorem sl_compO (own : List (Str × Nat)) {vs : List Nat} (hv : own.map (·.2) = vs) (hc : X.calm = true) (hN : X.N.Nodup) (ok : BlkOk X.N X.env.scope scope own) (hi : SndIO X tg it mi) (hg : ∀ s Hh C cl fp, SndGw (X.blk s Hh scope (compEnvC scope cl C X.env) fp) vs tg g) (ht : ∀ s Hh C cl fp, SndTs (X.blk s Hh scope (compEnvC scope cl C X.env) fp) ifs mt) (he : ∀ s Hh C cl fp, Snd (X.blk s Hh scope (compEnvC scope cl C X.env) fp) elt me)
    (hs : ∀ x, foldedSetIterable it X.env x = pure x := by intro _; rfl) : SndL X (.ListComp elt [⟨tg, it, ifs, 0⟩] scope pos) (lComp vs mi g mt me) := fun {_ _ _ _ _ _ _ _} I h =>
  ⟨_, pe_lc (g := bG X scope tg) (tt := bT X scope ifs) (te := bE X scope elt) hc hN pi_wp ok (fun s H C cl fp => ⟨fun pins s' σ H' v u Q I r h => pg_wp.run pins s' σ H' v u Q I r (h s H C cl fp)⟩) (fun s H C cl fp => ⟨fun pins s' σ H' Q I h => pts_wp.run pins s' σ H' Q I (h s H C cl fp)⟩)
    (fun s H C cl fp => ⟨fun pins s' σ H' Q I h => pe_wp.run pins s' σ H' Q I (h s H C cl fp)⟩) hs, by rw [hv]; exact lc_runO hi hg ht he I h⟩

theorem ss_ownLcO {i : Nat} {y : Str} {py spos : Pos} (own : List (Str × Nat)) {vs : List Nat} (hv : own.map (·.2) = vs) (hc : X.calm = true) (hN : X.N.Nodup) (ok : BlkOk X.N X.env.scope scope own) (hi : SndIO X tg it mi) (hg : ∀ s Hh C cl fp, SndGw (X.blk s Hh scope (compEnvC scope cl C X.env) fp) vs tg g) (ht : ∀ s Hh C cl fp, SndTs (X.blk s Hh scope (compEnvC scope cl C X.env) fp) ifs mt) (he : ∀ s Hh C cl fp, Snd (X.blk s Hh scope (compEnvC scope cl C X.env) fp) elt me)
    (hsw : swapsWith (.ListComp elt [⟨tg, it, ifs, 0⟩] scope pos) (some (.Name y py)) spos.line X.env = pure true) (hy : X.N[i]? = some y := by rfl) (hyl : X.env.scope.names.lookup y = some .local := by rfl) (hs : ∀ x, foldedSetIterable it X.env x = pure x := by intro _; rfl) : SndS X (.Assign [.Name y py] (.ListComp elt [⟨tg, it, ifs, 0⟩] scope pos) spos) (sOwn i (lComp vs mi g mt me)) := fun {π N0 H0 N H σ ρ De} I h =>
  ⟨_, ps_setLc (g := bG X scope tg) (tt := bT X scope ifs) (te := bE X scope elt) hc hN hy hyl hsw pi_wp ok (fun s H C cl fp => ⟨fun pins s' σ H' v u Q I r h => pg_wp.run pins s' σ H' v u Q I r (h s H C cl fp)⟩) (fun s H C cl fp => ⟨fun pins s' σ H' Q I h => pts_wp.run pins s' σ H' Q I (h s H C cl fp)⟩)
    (fun s H C cl fp => ⟨fun pins s' σ H' Q I h => pe_wp.run pins s' σ H' Q I (h s H C cl fp)⟩) hs, by
    rw [hv]
    exact lc_runO (Q := fun x H1 => De.nx (σ.set i (some x)) H1) hi hg ht he I (T.all_mono (fun ds hd => by intro l vs H2 e2 hl h2 r; exact hd _ _ _ (I.newAny e2 hl (by rw [h2]; exact fun z => by cases z) (.inl ⟨vs, ds, rfl, h2, r⟩))) (T.all_bind.mp h))⟩
end
end Pd

/-! list(d.items()), the keys of d nested tuples. -/
namespace Pd
open PySem L2 PySem.Spec PyProof.Rows
/-- pairs, each at its own place -/
def layP : Hp → List Addr → List (V × V) → Hp
  | H, t :: ts, q :: qs => layP (upd H t (.tup [q.1, q.2])) ts qs
  | H, _, _ => H
theorem layP_off {b : Addr} : ∀ (ts : List Addr) (qs : List (V × V)) (H : Hp), b ∉ ts → layP H ts qs b = H b
  | [], _, _, _ => rfl
  | _ :: _, [], _, _ => rfl
  | t :: ts, q :: qs, H, n => by
    have n1 : b ∉ ts := fun z => n (List.mem_cons_of_mem _ z)
    have n2 : b ≠ t := fun z => n (z ▸ List.mem_cons_self)
    exact (layP_off ts qs _ n1).trans (upd_ne n2)
theorem layP_at : ∀ (ts : List Addr) (qs : List (V × V)) (H : Hp), ts.length = qs.length → ts.Nodup → ∀ (j : Nat) (t : Addr), ts[j]? = some t → ∃ q, qs[j]? = some q ∧ layP H ts qs t = some (.tup [q.1, q.2])
  | [], _, _, _, _, _, _, e => by simp at e
  | _ :: _, [], _, e, _, _, _, _ => by cases e
  | t :: ts, q :: qs, H, e, nd, 0, u, ht => by
    have eu : t = u := by simpa using ht
    subst eu
    exact ⟨q, rfl, (layP_off ts qs _ (List.nodup_cons.mp nd).1).trans upd_same⟩
  | t :: ts, q :: qs, H, e, nd, j + 1, u, ht => layP_at ts qs _ (Nat.succ.inj e) (List.nodup_cons.mp nd).2 j u (by simpa using ht)
theorem ref_vals : ∀ ts : List Addr, Vals (ts.map V.ref) (ts.map Value.ref)
  | [] => .nil
  | _ :: ts => .cons rfl (ref_vals ts)
section
variable {X : Cx} {e : Expr} {p apos cpos pos : Pos}
theorem pairs_laid {pins : List (Addr × Obj)} {σ : L2.St} {H : Hp} {s : Shared} {g : Heap} {tk : Nat} {xs : List (NestedKey × Addr × V)} {es : Array DictEntry} {acc : Array Value} {c : Nat} {ts : List Addr} (I : Inv X pins σ H s) (room : es.size ≤ sizeLine) (sz : es.size = xs.length)
    (ent : ∀ (i : Nat) (x : NestedKey × Addr × V), xs[i]? = some x → ∃ hi : i < es.size, es[i].key = .ref x.2.1 ∧ RelV x.2.2 es[i].val) (stay : ∀ b o, s.heap.get? b = some o → g.get? b = some o)
    (at_ : g.get? s.heap.objs.size = some { cls := .type "list", dict := none, data := .seq acc c, slots := #[] }) (lt : ts.length = es.size) (G : PySem.W.DilG es s.heap.objs.size g ts) (ac : acc.toList = ts.map Value.ref) :
    ∃ H' : Hp, (∀ b o, H b = some o → H' b = some o) ∧ H s.heap.objs.size = none ∧ (∀ t ∈ ts, H t = none) ∧ s.heap.objs.size ∉ ts ∧ H' s.heap.objs.size = some (.lst (ts.map V.ref)) ∧
      (∀ (j : Nat) (t : Addr), ts[j]? = some t → ∃ x, xs[j]? = some x ∧ H' t = some (.tup [.ref x.2.1, x.2.2])) ∧ Inv X pins σ H' { s with heap := g, toks := tk } := by
  have notS : s.heap.objs.size ∉ ts := fun z => absurd (G.above _ z) (Nat.lt_irrefl _)
  have nd : ts.Nodup := G.rise.imp fun {a b} (z : a < b) => Nat.ne_of_lt z
  have fresh : ∀ t ∈ ts, H t = none := fun t z => I.hok.fresh (Nat.le_of_lt (G.above t z))
  have freshS : H s.heap.objs.size = none := I.hok.fresh (Nat.le_refl _)
  let H1 := upd H s.heap.objs.size (.lst (ts.map V.ref))
  let H2 := layP H1 ts (xs.map fun x => (V.ref x.2.1, x.2.2))
  have there := layP_at ts (xs.map fun x => (V.ref x.2.1, x.2.2)) H1 (by rw [List.length_map]; omega) nd
  have away : ∀ b, b ∉ ts → b ≠ s.heap.objs.size → H2 b = H b := fun b n1 n2 => (layP_off ts _ H1 n1).trans (upd_ne n2)
  have old : ∀ b o, s.heap.get? b = some o → b ∉ ts ∧ b ≠ s.heap.objs.size := fun b o z => by
    have l := Heap.lt_size z
    exact ⟨fun y => Nat.lt_irrefl _ (Nat.lt_trans l (G.above b y)), Nat.ne_of_lt l⟩
  have kp : ∀ b o, H b = some o → H2 b = some o := fun b o z => by
    rw [away b (fun y => by have := fresh b y; rw [z] at this; cases this) (fun y => by rw [y, freshS] at z; cases z), z]
  have atS : H2 s.heap.objs.size = some (.lst (ts.map V.ref)) := (layP_off ts _ H1 notS).trans upd_same
  have prs : ∀ (j : Nat) (t : Addr), ts[j]? = some t → ∃ x, xs[j]? = some x ∧ H2 t = some (.tup [.ref x.2.1, x.2.2]) := fun j t z => by
    obtain ⟨q, e1, e2⟩ := there j t z
    rw [List.getElem?_map] at e1
    obtain ⟨x, e3, rfl⟩ := Option.map_eq_some_iff.mp e1
    exact ⟨x, e3, e2⟩
  refine ⟨H2, kp, freshS, fresh, notS, atS, prs, ?_⟩
  have unch : L2.Un (frs X.stack) [] H H2 s.heap g := ⟨fun b o z _ _ _ => stay b o z, fun b o z _ _ _ => ⟨o.slots, stay b o z⟩, fun b o z n _ => by rw [away b (old b o z).1 (old b o z).2]; exact n, fun b o z _ => ⟨o, stay b o z⟩, fun b ys z => kp b _ z, fun b o u z => kp b _ z, fun b ps z => ⟨#[], by rw [kp b _ z]; simp⟩⟩
  refine Inv.call' (ch := []) I rfl unch (fun b u z => ?_) I.bare fun b z => by simp at z
  by_cases m : b ∈ ts
  · obtain ⟨j, hj⟩ := List.mem_iff_getElem?.mp m
    obtain ⟨x, e1, e2⟩ := prs j b hj
    rw [e2] at z
    cases z
    obtain ⟨hi, e3, e4⟩ := ent j x e1
    obtain ⟨_, e5⟩ := G.pairs j b hj
    have rk : RelV (V.ref x.2.1) es[j].key := by rw [e3]; rfl
    exact ⟨by show 2 ≤ sizeLine; decide, [es[j].key, es[j].val], .cons rk (.cons e4 .nil), ⟨_, e5, rfl, _, rfl⟩⟩
  · by_cases m2 : b = s.heap.objs.size
    · subst m2
      rw [atS] at z
      cases z
      refine ⟨by rw [List.length_map]; omega, acc.toList, c, by rw [ac]; exact ref_vals ts, ?_⟩
      rw [Array.toArray_toList]
      exact at_
    · rw [away b m m2] at z
      exact (I.hok b u z).stay (fun d v _ y => stay d v y) (fun d y => kp d _ y) fun d ys y => kp d _ y
theorem pe_listIt (hc : X.calm = true) (hg : Gl X "list") (hm : X.mg "list" = none) (hv : bootBuiltins "list" = some (.type "list")) (hbase : attributeBase e "items" X.env (eval e X.env) = eval e X.env) (hline : (apos.endLine == cpos.line) = true)
    (hs : starEach [.Call (.Attribute e "items" apos) [] [] cpos] X.env = (false, eval (.Call (.Attribute e "items" apos) [] [] cpos) X.env) :: starEach [] X.env) :
    PE X (.Call (.Name "list" p) [.Call (.Attribute e "items" apos) [] [] cpos] [] pos) (fun σ H Q => wpE X e σ H fun x H1 => ∃ d o xs, x = .ref d ∧ H1 d = some (.frz o (DN X.prog X.w d xs)) ∧ ∀ (H' : Hp) (l : Addr) (ts : List Addr), (∀ b u, H1 b = some u → H' b = some u) → H1 l = none → (∀ t ∈ ts, H1 t = none) → l ∉ ts →
      H' l = some (.lst (ts.map V.ref)) → ts.length = xs.length → (∀ (j : Nat) (t : Addr), ts[j]? = some t → ∃ x, xs[j]? = some x ∧ H' t = some (.tup [.ref x.2.1, x.2.2])) → Q (.ref l) H') := by
  refine ⟨fun pins s σ H Q I h => wpAny_Call_Name_kw (ld_blt I hg hm hv (PyProof.Rows.callWith_type1 ?_ hs rfl))⟩
  rw [hs]
  show wpAny _ _ (spliced ((false, eval (.Call (.Attribute e "items" apos) [] [] cpos) X.env) :: backTo pos (starEach [] X.env))) _ _ s
  refine Calls.spliced_cons (wpAny_Call_method (T := "dict") (id := "dict.items") hbase rfl hline F.plainAttrs_dict F.slot_dict_items F.type_dict_items (thn (pe_wp.run pins s σ H _ I h) fun u s1 ⟨x, H1, I1, rx, d, o, xs, ex, hd, q⟩ => ?_))
  subst ex
  obtain rfl : u = Value.ref d := rx
  obtain ⟨ho, ⟨h1, h2, h3, ys, pr, o', es, ep, ho', hx, hdt, he⟩, _⟩ := (show ObjOk X.prog X.w H1 s1.heap d (.frz o (DN X.prog X.w d xs)) from I1.hok d _ hd)
  have eo : o' = o := Option.some.inj (ho'.symm.trans ho)
  subst eo
  obtain ⟨raw, sz, ent⟩ := frz_at I1 hd hdt
  have I2 : Inv X pins σ H1 { s1 with heap := s1.heap.push { cls := .type "dict_items", data := .fields #[.ref d] } } := I1.kept (t' := s1.toks) fun b ob z => Heap.get?_push_of_some _ z
  refine ⟨raw.typeIs, fun b z => ?_, ?_⟩
  · cases z
    exact ⟨_, ho, hx.2.1⟩
  have fin : wpAny (model X.prog X.w) X.A (call (.type "list") [.ref s1.heap.objs.size]) (EP X pins σ Q) X.xe { s1 with heap := s1.heap.push { cls := .type "dict_items", data := .fields #[.ref d] } } := by
    refine PySem.W.dil_call (es := es) (ep := ep) (I1.ok.hd hc) ⟨_, Heap.get?_push_size _ rfl, rfl, rfl⟩ (raw.at fun ob z => Heap.get?_push_of_some _ z) (by omega) fun g tk acc c ts stay at_ lt G ac => ?_
    obtain ⟨H', k1, k2, k3, k4, k5, k6, J⟩ := pairs_laid (tk := tk) I2 (by omega) sz ent stay at_ lt G ac
    exact ⟨.ref _, H', J, rfl, q H' _ ts k1 k2 k3 k4 k5 (by omega) k6⟩
  show wpAny _ _ (callWith cpos (.builtin "dict.items") [.ref d] [] []) _ X.xe s1
  exact method_meetsIn F.slot_dict_items F.entry_dict_items rfl (PySem.evalArgs_none ⟨rfl, raw.typeIs, F.args_dict_items_1 _, _, meets_dict_items_raw d h1, ⟨es, ep, raw⟩, Calls.spliced_nil fin⟩)
theorem pairs_rv {π : Addr} {N : Addr → Bool} {H H' : Hp} {kvs : List (D × D)} {xs : List (NestedKey × Addr × V)} (hn : HN π N H) (e : Ex π H H') (rl : RvD X.K X.prog X.w π (Hide N H) xs kvs) {l : Addr} (hl : H l = none) : ∀ {ts : List Addr} {k : Nat}, l ∉ ts → (∀ t ∈ ts, H t = none) → ts.length + k = xs.length → (∀ (j : Nat) (t : Addr), ts[j]? = some t → ∃ x, xs[k + j]? = some x ∧ H' t = some (.tup [.ref x.2.1, x.2.2])) →
    RvL X.K X.prog X.w π (Hide (plus N l) H') (ts.map V.ref) ((kvs.drop k).map fun p => .tup [p.1, p.2])
  | [], k, _, _, len, _ => by
    have := rl.length
    rw [List.drop_eq_nil_of_le (by simp at len; omega)]
    exact .nil
  | t :: ts, k, nl, fr, len, at_ => by
    have hk : k < kvs.length := by
      have := rl.length
      simp at len
      omega
    rw [List.drop_eq_getElem_cons hk]
    obtain ⟨x, e1, e2⟩ := at_ 0 t rfl
    rw [Nat.add_zero] at e1
    obtain ⟨kx, a, v, e3, r1, r2⟩ := rl.get (List.getElem?_eq_getElem hk)
    rw [e1] at e3
    cases e3
    have kp : Kp π (Hide N H) (Hide (plus N l) H') := e.hidden hl
    have tl : t ≠ l := fun z => nl (z ▸ List.mem_cons_self)
    have tn : H t = none := fr t List.mem_cons_self
    have vis : Hide (plus N l) H' t = some (.tup [.ref a, v]) := by
      rw [hide_in (by simp [plus, hn.new tn, tl])]
      exact e2
    refine .cons (.tup vis (hn.pot.ne tn) (.cons (r1.mono kp) (.cons (r2.mono kp) .nil))) (pairs_rv hn e rl hl (k := k + 1) (fun z => nl (List.mem_cons_of_mem _ z)) (fun u hu => fr u (List.mem_cons_of_mem _ hu)) (by simp at len; omega) fun j u hu => ?_)
    have := at_ (j + 1) u (by simpa using hu)
    rw [show k + (j + 1) = k + 1 + j by omega] at this
    exact this
/-- list(d.items()) -/
theorem sl_listIt {m : Rho → T D} (hc : X.calm = true) (hm : X.mg "list" = none) (he : Snd X e m) (hg : Gl X "list" := by rfl) (hv : bootBuiltins "list" = some (.type "list") := by decide +kernel) (hbase : attributeBase e "items" X.env (eval e X.env) = eval e X.env := by rfl) (hline : (apos.endLine == cpos.line) = true := by rfl)
    (hs : starEach [.Call (.Attribute e "items" apos) [] [] cpos] X.env = (false, eval (.Call (.Attribute e "items" apos) [] [] cpos) X.env) :: starEach [] X.env := by rfl) :
    SndL X (.Call (.Name "list" p) [.Call (.Attribute e "items" apos) [] [] cpos] [] pos) (iItems m) := fun {π N0 H0 N H σ ρ Q} I h => by
  refine ⟨_, pe_listIt hc hg hm hv hbase hline hs, he I (T.all_mono (fun d hd => ?_) (T.all_bind.mp h))⟩
  intro v H1 e1 r
  cases d with
  | dic kvs =>
    obtain ⟨a, od, xs, rfl, ha, nl, ne, rl⟩ := r.dicE
    refine ⟨a, od, xs, rfl, ha, fun H' l ts kp hl fr nlt atl len prs => ?_⟩
    have hn1 := I.hn.ext e1
    have e2 : Ex π H1 H' := ⟨fun b o _ z => kp b o z, by
      obtain ⟨x, y, z, w⟩ := hn1.pot
      exact ⟨x, y, kp _ _ z, w⟩⟩
    have hl0 : H l = none := by
      cases c : H l with
      | none => rfl
      | some o => rw [e1.kp l o (hn1.pot.ne hl) c] at hl; cases hl
    exact hd l _ H' (e1.trans e2) hl0 atl (by
      have := pairs_rv hn1 e2 rl hl (k := 0) nlt fr (by omega) (fun j t hj => by
        obtain ⟨x, a1, a2⟩ := prs j t hj
        exact ⟨x, by rw [Nat.zero_add]; exact a1, a2⟩)
      rw [List.drop_zero] at this
      exact this)
  | _ => exact False.elim hd
end
end Pd

/-! != of dicts that are alike; a dict changed by a def that gets it. -/
namespace Pd
open PySem L2 PySem.W PySem.Calls PyProof.Rows PyProof.V
section
variable {prog : Program} {w : World} {K : Type} [DecidableEq K] {knd : HeapKind prog w K} {A : Around} {E : Value → Shared → Prop} {s : Shared}
theorem samePairsH {nm : String} {a b : Addr} {xs ys : List (K × Addr × Value)} {Q : Bool → Shared → Prop} (ha : (a == sysModules) = false) (hb : (b == sysModules) = false)
    (da : s.heap.DictOfH knd a xs) (db : s.heap.DictOfH knd b ys) (hu : knd.room A) (hl : xs.length = ys.length) (hits : ∀ x ∈ xs, ∃ p, atKey ys x.1 = some p ∧ SeqAt.EqAt A s x.2.2 p.2 true) (h : Q true s) :
    wpAny (model prog w) A (Builtin.Dict.samePairs nm a b) Q E s := by
  obtain ⟨oa, es, ep, hoa, _, hda, hea, hisa, hna⟩ := da
  obtain ⟨ob, es', ep', hob, _, hdb, heb, hisb, hnb⟩ := db
  have hla : es.size = xs.length := size_of_entries hea
  have hlb : es'.size = ys.length := size_of_entries heb
  have hsz : es.size = es'.size := by omega
  unfold Builtin.Dict.samePairs Builtin.Dict.showsAll
  rw [if_neg (show ¬ (a == sysModules) = true by rw [ha]; exact Bool.false_ne_true), if_neg (show ¬ (b == sysModules) = true by rw [hb]; exact Bool.false_ne_true)]
  refine wpAny_bind (wpAny_pure (wpAny_bind (wpAny_pure ?_)))
  refine wpAny_bind (wpAny_dictEntries hoa hda ?_)
  dsimp only
  refine wpAny_bind (wpAny_dictEntries hob hdb ?_)
  rw [if_neg (by rw [hsz]; simp)]
  refine wpAny_bind (wpAny_dictEpoch hoa hda ?_)
  refine wpAny_bind ?_
  rw [Std.Legacy.Range.forIn_eq_forIn_range']
  simp only [Std.Legacy.Range.size, Nat.sub_zero, Nat.add_sub_cancel, Nat.div_one]
  refine wpAny_forIn_list _
    (fun rest q s' => s' = s ∧ q = (none, ()) ∧ ∃ i, rest = List.range' i (es.size - i) ∧ i ≤ es.size)
    _ ?_ ?_ _ _ ⟨rfl, rfl, 0, by simp, Nat.zero_le _⟩
  · rintro x rest q s' ⟨rfl, rfl, i, hr, hi⟩
    have hlt : i < es.size := by
      rcases Nat.lt_or_ge i es.size with h | h
      · exact h
      · rw [Nat.sub_eq_zero_of_le h] at hr; simp at hr
    obtain ⟨rfl, hrest⟩ : x = i ∧ rest = List.range' (i + 1) (es.size - (i + 1)) := by
      have e : es.size - i = (es.size - (i + 1)) + 1 := by omega
      rw [e, List.range'_succ] at hr
      injection hr with h1 h2
      exact ⟨h1, h2⟩
    refine wpAny_bind (wpAny_dictEntries hoa hda ?_)
    have hlt' : x < xs.length := by omega
    have ee := entry_at hea x
    rw [List.getElem?_eq_getElem hlt', Option.map_some] at ee
    rw [ee]
    have hm : xs[x] ∈ xs := List.getElem_mem hlt'
    obtain ⟨p, hp, heq⟩ := hits _ hm
    show wpAny _ _ (holding [(entryOfKey knd xs[x]).key, (entryOfKey knd xs[x]).val] _ >>= _) _ _ _
    refine wpAny_bind (wpAny_holding (wpAny_bind ?_))
    show wpAny _ _ (dictFind b (.ref xs[x].2.1) (knd.hash xs[x].1)) _ _ _
    refine wpAny_dictFind_heap hu (hisa _ hm) hob hdb heb hisb hnb (fun hno => ?_) (fun j r hj => ?_)
    · rw [atKey_none_of_get hno] at hp
      cases hp
    · have hr := atKey_of_get hnb hj
      rw [hp] at hr
      cases hr
      refine wpAny_bind (wpAny_dictEntries hob hdb ?_)
      have ej := entry_at heb j
      rw [hj, Option.map_some] at ej
      rw [ej]
      refine wpAny_holding (heq prog w _ _ ?_)
      show wpAny _ _ (if (!true) = true then _ else _) _ _ _
      rw [if_neg (by decide)]
      refine wpAny_bind (wpAny_dictEpoch hoa hda ?_)
      rw [if_neg (by simp)]
      exact wpAny_pure ⟨rfl, rfl, x + 1, hrest, hlt⟩
  · rintro q s' ⟨rfl, rfl, i, hr, hi⟩
    exact wpAny_pure h
theorem neH {a b : Addr} {xs ys : List (K × Addr × Value)} {Q : Value → Shared → Prop} (ha : (a == sysModules) = false) (hb : (b == sysModules) = false)
    (da : s.heap.DictOfH knd a xs) (db : s.heap.DictOfH knd b ys) (hu : knd.room A.in1) (hl : xs.length = ys.length) (hits : ∀ x ∈ xs, ∃ p, atKey ys x.1 = some p ∧ SeqAt.EqAt A.in1 s x.2.2 p.2 true) (hu2 : A.units < cLine) (h : Q (.bool false) s) :
    wpAny (model prog w) A (compareOp .NotEq (.ref a) (.ref b)) Q E s := by
  refine wpAny_richCompare_same_room (op := .NotEq) da.typeIs db.typeIs PySem.F.slot_dict_ne (wpAny_call_entry PySem.F.slot_dict_ne da.typeIs PySem.F.entry_dict_ne ?_ (PySem.F.args_dict_ne_2 _ _)) hu2
  show wpAny _ _ (Builtin.Dict.dictSlotArgs "__ne__" ⟨[.ref a, .ref b], []⟩ >>= _) _ _ s
  refine wpAny_bind ?_
  unfold Builtin.Dict.dictSlotArgs
  refine wpAny_bind (wpAny_notOrdered_dict da.typeIs ?_)
  show wpAny _ _ (pure (Value.ref a, Value.ref b)) _ _ s
  refine wpAny_pure ?_
  refine wpAny_bind (wpAny_isInstance (T := "dict") db.typeIs PySem.F.sub_dict_dict ?_)
  simp only [Bool.not_true, Bool.false_eq_true, if_false]
  refine wpAny_bind (wpAny_pure (wpAny_bind (wpAny_pure ?_)))
  refine wpAny_bind (samePairsH ha hb da db hu hl hits ?_)
  refine wpAny_pure ⟨_, rfl, ?_, ?_⟩
  · exact fun x => nomatch x
  · simpa using h
end
/-- the same keys with the same whole numbers -/
def dicSame (a b : List (D × D)) : Bool := decide (a.length = b.length) && a.all fun p => match p.1.nk, p.2 with
  | some k, .int i => match dAt b k with
    | some (.int j) => decide (i = j)
    | _ => false
  | _, _ => false
def opNeD : D → D → T D
  | .dic a, .dic b => cond (dicSame a b) (.ret (.bl false)) .fail
  | x, y => opNeF x y
section
variable {X : Cx} {π : Addr} {N : Addr → Bool} {H : Hp} {pins : List (Addr × Obj)} {σ : L2.St} {s : Shared}
theorem hits_of {A : Around} {ys : List (NestedKey × Addr × V)} {b : List (D × D)} {ws : List (NestedKey × Addr × Value)} (rl2 : RvD X.K X.prog X.w π (Hide N H) ys b) (pr2 : PX ys ws) : ∀ {a : List (D × D)} {xs : List (NestedKey × Addr × V)} {us : List (NestedKey × Addr × Value)}, RvD X.K X.prog X.w π (Hide N H) xs a → PX xs us → (a.all fun p => match p.1.nk, p.2 with
  | some k, .int i => match dAt b k with
    | some (.int j) => decide (i = j)
    | _ => false
  | _, _ => false) = true → ∀ u ∈ us, ∃ p, atKey ws u.1 = some p ∧ SeqAt.EqAt A s u.2.2 p.2 true
  | _, _, _, .nil, .nil, _, u, hu => (List.not_mem_nil hu).elim
  | _, _, _, .cons (k := k) (dk := dk) (dv := dv) ek dp rk rv t, .cons h1 t1, al, u, hu => by
    obtain ⟨a1, al⟩ := Bool.and_eq_true_iff.mp (show (_ && _) = true from al)
    rcases List.mem_cons.mp hu with rfl | hu
    · dsimp only at a1
      rw [ek] at a1
      split at a1
      · rename_i k2 i e2
        cases e2
        split at a1
        · rename_i j e3
          have e := of_decide_eq_true a1
          subst e
          have v2 := RvD.val (k := k) rl2
          rw [e3] at v2
          obtain ⟨v', hv', rv'⟩ := v2
          obtain ⟨w', hw, rw'⟩ := RelO.some_of (v := v') (o := (atKey ws k).map (·.2)) (by rw [← hv']; exact pr2.val)
          obtain ⟨p, hp, hp2⟩ := Option.map_eq_some_iff.mp hw
          have x1 := rv.intE
          have x2 := rv'.intE
          subst x1 x2
          obtain ⟨t1, ht1⟩ := h1.2.2
          obtain ⟨t2, ht2⟩ := rw'
          refine ⟨p, by rw [← h1.1]; exact hp, ?_⟩
          rw [ht1, hp2, ht2]
          have q := SeqAt.EqAt.int_int (A := A) (s := s) i t1 i t2
          rw [BEq.rfl] at q
          exact q
        · cases a1
      · cases a1
    · exact hits_of rl2 pr2 t t1 al u hu
theorem os_neD (hu : X.A.units + 64 < cLine) : OpSnd X (compareOp .NotEq) opNeD := fun {π N H x y dx dy Q} hn rx ry h => by
  unfold opNeD at h
  split at h
  · rename_i a b
    obtain ⟨ok, h⟩ := cond_all h
    obtain ⟨l, od, xs, rfl, hl, _, _, rl⟩ := rx.dicE
    obtain ⟨l2, od2, ys, rfl, hl2, _, _, rl2⟩ := ry.dicE
    refine ⟨fun x y H' Q' => x = .ref l ∧ y = .ref l2 ∧ H' = H ∧ Q' (.bl false) H, fun pins s σ H' x y v u Q' I rx' ry' ⟨ex, ey, eH, q⟩ => ?_, rfl, rfl, rfl, h _ _ (Ex.refl hn.pot) (.bl _)⟩
    subst ex ey eH
    obtain rfl : v = Value.ref l := rx'
    obtain rfl : u = Value.ref l2 := ry'
    obtain ⟨h1, h2, us, pr, dd⟩ := dn_of I (.inr ⟨od, hl⟩) ⟨_, _, _, rl⟩
    obtain ⟨h3, h4, ws, pr2, dd2⟩ := dn_of I (.inr ⟨od2, hl2⟩) ⟨_, _, _, rl2⟩
    obtain ⟨k1, k2⟩ := Bool.and_eq_true_iff.mp ok
    have k1 := of_decide_eq_true k1
    refine neH (knd := nestedKind X.prog X.w) h1 h3 dd dd2 (by show X.A.in1.units + 8 < cLine; rw [Around.in1_units]; omega) ?_ (hits_of rl2 pr2 rl pr k2) (by omega) ⟨.bl false, _, I, rfl, q⟩
    rw [← Paired.length pr, ← Paired.length pr2, rl.length, rl2.length]
    exact k1
  · exact os_neF hu hn rx ry h
end
end Pd

/-! A dict that a def changes for its caller; two new dicts at once. -/
namespace Pd
open PySem L2 PyProof.Rows
/-- found[key] = found.get(key, 0) + often -/
def spPut (K : PySem.W.Frag) (P : Program) (w : World) : Sp := fun vs H Q _ => ∃ (l b : Addr) (xs : List (NestedKey × Addr × V)) (k : NestedKey) (n m : Int), vs = [.ref l, .ref b, .int n] ∧ H l = some (DN P w l xs) ∧ (∃ (π : Addr) (N : Addr → Bool) (kvs : List (D × D)), RvD K P w π (Hide N H) xs kvs) ∧
  (k.depth ≤ 8 ∧ ∃ (π : Addr) (N : Addr → Bool) (d : D), Rv K P w π (Hide N H) (.ref b) d ∧ d.nk = some k) ∧ xs.length < sizeLine ∧ (valX xs k).getD (.int 0) = .int m ∧ Q .non (upd H l (DN P w l (putX xs k b (.int (m + n)))))
def PmPut (P : Program) (w : World) (K : PySem.W.Frag) (mg : Str → Option Value) (base : Heap) (x : Str) (k : Nat) (ps : List Str) : Prop := ∃ (a : Addr) (fd : FuncData), mg x = some (.ref a) ∧ PySem.W.keepIn K (.ref a) = true ∧ FnOk P w K mg base CX0 k a fd ps (spPut K P w) ∧ Binds K fd ps []
def sPutC (i : Nat) (mk mv : Rho → T D) : Rho → T Out := fun ρ => match ρ[i]? with
  | some (.ownD kvs) => (mk ρ).bind fun dk => (mv ρ).bind fun dv => withKey dk fun k => match (dAt kvs k).getD (.int 0), dv with
    | .int m, .int n => cond (decide (kvs.length ≤ 100000)) (.ret (.nx (ρ.set i (.ownD (dPut kvs k dk (.int (m + n))))))) .fail
    | _, _ => .fail
  | _ => .fail
section
variable {X : Cx} {e1 e2 : Expr} {mk mv : Rho → T D} {p p2 pos pos' : Pos}
theorem ss_putC {k : Nat} {ps : List Str} (i : Nat) {x f : Str} (h : PmPut X.prog X.w X.K X.mg X.base f k ps) (hr : Room k X.A) (h1 : Snd X e1 mk) (h2 : Snd X e2 mv) (hg : Gl X f := by rfl) (hdb : (f == ("__debug__" : Str)) = false := by decide)
    (he : starEach [.Name x p2, e1, e2] X.env = (false, eval (.Name x p2) X.env) :: starEach [e1, e2] X.env := by rfl) (he1 : starEach [e1, e2] X.env = (false, eval e1 X.env) :: starEach [e2] X.env := by rfl) (he2 : starEach [e2] X.env = (false, eval e2 X.env) :: starEach [] X.env := by rfl) (hpl : (backTo pos (starEach [e1, e2] X.env)).any (·.1) = false := by rfl)
    (hN : X.N[i]? = some x := by rfl) (hv : Vis X.env.scope x := by first | exact Or.inl rfl | exact Or.inr (Or.inl rfl) | exact Or.inr (Or.inr rfl)) (hd : (x == ("__debug__" : Str)) = false := by decide) (hcd : (x == ("__classdict__" : Str)) = false := by decide)
    (hs : swapsWith (.Call (.Name f p) [.Name x p2, e1, e2] [] pos) none pos'.line X.env = pure false := by rfl) : SndS X (.Expr (.Call (.Name f p) [.Name x p2, e1, e2] [] pos) pos') (sPutC i mk mv) := fun {π N0 H0 N H σ ρ De} I q => by
  obtain ⟨fa, fd, hm, hk, G, B⟩ := h
  refine ⟨_, ps_expr (pe_call G hr hg hm hk B .nil pass0 (pa_cons (pe_var hN hv hd hcd) (pa_cons pe_wp (pa_cons pe_wp pa_nil he2) he1) he) hdb he hpl) hs, ?_⟩
  unfold sPutC at q
  split at q
  · rename_i kvs c
    obtain ⟨l, xs, hs1, nl, n0, hl, rl⟩ := I.dic i kvs c
    refine ⟨.ref l, hs1, h1 I (T.all_mono (fun dk hdk => ?_) (T.all_bind.mp q))⟩
    intro y H1 x1 r1
    refine h2 (I.ext x1) (T.all_mono (fun dv hdv => ?_) (T.all_bind.mp hdk))
    intro z H2 x2 r2
    obtain ⟨ds, k, rfl, ek, dp, hdv⟩ := withKey_all hdv
    obtain ⟨b, vs, rfl, hb, rb⟩ := id r1.tupE
    have e12 := x1.trans x2
    have rl2 := rl.mono e12.kp.hide
    have hl2 := e12.kp l _ (N_ne I.hn nl) hl
    have hval := RvD.val (k := k) rl2
    split at hdv
    · rename_i m n g1 g0
      obtain ⟨hsm, hdv⟩ := cond_all hdv
      have ez := r2.intE
      subst ez
      refine ⟨l, b, xs, k, n, m, rfl, hl2, ⟨_, _, _, rl2⟩, ⟨dp, _, _, _, r1.mono x2.kp.hide, ek⟩, ?_, ?_, ?_⟩
      · rw [rl.length]
        exact Nat.lt_of_le_of_lt (of_decide_eq_true hsm) (by decide)
      · cases e : dAt kvs k with
        | none =>
          rw [e] at hval g1
          have hval : valX xs k = none := hval
          rw [hval]
          cases g1
          rfl
        | some d =>
          rw [e] at hval g1
          obtain ⟨v, hv', rv⟩ := (show ∃ v, valX xs k = some v ∧ Rv X.K X.prog X.w π (Hide N H2) v d from hval)
          rw [hv']
          cases g1
          exact rv.intE
      · exact hdv _ _ _ ((I.ext e12).upAny c rfl hs1 nl n0 (.inr ⟨_, _, rfl, rfl, RvD.put ek dp (r1.mono x2.kp.hide) (.int _) rl2⟩))
    · exact False.elim hdv
  · exact False.elim q
/-- x, y = {}, {} -/
def sParDD (i j : Nat) : Rho → T Out := fun ρ => .ret (.nx ((ρ.set i (.ownD [])).set j (.ownD [])))
theorem ss_parDD {i j : Nat} {x y : Str} {px py pt pd pd2 : Pos} {kt k2 pt2} (hc : X.calm = true) (hN : X.N.Nodup) (hij : i ≠ j := by decide) (hi : X.N[i]? = some x := by rfl) (hj : X.N[j]? = some y := by rfl)
    (hx : X.env.scope.names.lookup x = some .local := by rfl) (hy : X.env.scope.names.lookup y = some .local := by rfl)
    (hw : swappedStores [.Tuple [.Name x px, .Name y py] kt pt] (.Tuple [.Dict [] [] pd, .Dict [] [] pd2] k2 pt2) X.env = pure (some [x, y]) := by rfl)
    (hs : swapsWithSole [.Tuple [.Name x px, .Name y py] kt pt] (.Tuple [.Dict [] [] pd, .Dict [] [] pd2] k2 pt2) pos.line X.env = pure false := by rfl) (he : starEach [.Dict [] [] pd, .Dict [] [] pd2] X.env = (false, eval (.Dict [] [] pd) X.env) :: starEach [.Dict [] [] pd2] X.env := by rfl) (he2 : starEach [.Dict [] [] pd2] X.env = (false, eval (.Dict [] [] pd2) X.env) :: starEach [] X.env := by rfl) :
    SndS X (.Assign [.Tuple [.Name x px, .Name y py] kt pt] (.Tuple [.Dict [] [] pd, .Dict [] [] pd2] k2 pt2) pos) (sParDD i j) := fun {π N0 H0 N H σ ρ De} I h => ⟨_, ps_par hc hN hi hj hij hx hy (pa_cons pe_dnewN (pa_cons pe_dnewN pa_nil he2) he) hw hs, fun p hp q hq => by
  have z1 := Ex.new (o := DN X.prog X.w p []) I.hn.pot hp
  have I1 := I.newAny (x := .ownD []) (i := i) z1 hp (by rw [upd_same]; exact fun z => by cases z) (.inr ⟨[], [], rfl, upd_same, .nil⟩)
  have z2 := Ex.new (o := DN X.prog X.w q []) I1.hn.pot hq
  exact ⟨.ref p, .ref q, rfl, h _ _ _ (I1.newAny (x := .ownD []) (i := j) z2 hq (by rw [upd_same]; exact fun z => by cases z) (.inr ⟨[], [], rfl, upd_same, .nil⟩))⟩⟩
end
end Pd

/-! Sums over rising choices of rows: by the last row, and by steps. No program here. -/
namespace Pd
def sumR : List Rat → Rat
  | [] => 0
  | x :: xs => x + sumR xs
theorem sumR_app : ∀ a b : List Rat, sumR (a ++ b) = sumR a + sumR b
  | [], b => (Rat.zero_add _).symm
  | x :: a, b => by
    show x + sumR (a ++ b) = x + sumR a + sumR b
    rw [sumR_app a b, Rat.add_assoc]
theorem sumR_mul (c : Rat) : ∀ a : List Rat, sumR (a.map fun x => c * x) = c * sumR a
  | [] => (Rat.mul_zero _).symm
  | x :: a => by
    show c * x + sumR (a.map fun x => c * x) = c * (x + sumR a)
    rw [sumR_mul c a, Rat.mul_add]
theorem sumR_add {α : Type} (f g : α → Rat) : ∀ a : List α, sumR (a.map fun x => f x + g x) = sumR (a.map f) + sumR (a.map g)
  | [] => (Rat.zero_add _).symm
  | x :: a => by
    show f x + g x + sumR (a.map fun x => f x + g x) = f x + sumR (a.map f) + (g x + sumR (a.map g))
    rw [sumR_add f g a, Rat.add_assoc, Rat.add_assoc, ← Rat.add_assoc (g x), Rat.add_comm (g x), Rat.add_assoc]
theorem sumR_flat {α β : Type} (f : α → List β) (g : β → Rat) : ∀ a : List α, sumR ((a.flatMap f).map g) = sumR (a.map fun x => sumR ((f x).map g))
  | [] => rfl
  | x :: a => by
    rw [List.flatMap_cons, List.map_append, sumR_app, sumR_flat f g a]
    rfl
theorem sumR_congr {α : Type} {f g : α → Rat} : ∀ {a : List α}, (∀ x ∈ a, f x = g x) → sumR (a.map f) = sumR (a.map g)
  | [], _ => rfl
  | x :: a, h => by
    show f x + sumR (a.map f) = g x + sumR (a.map g)
    rw [h x List.mem_cons_self, sumR_congr fun y hy => h y (List.mem_cons_of_mem _ hy)]
/-- rows j, j + 1, .. below n -/
def up (j n : Nat) : List Nat := List.range' j (n - j)
theorem up_succ {j n : Nat} (h : j ≤ n) : up j (n + 1) = up j n ++ [n] := by
  unfold up
  rw [show n + 1 - j = n - j + 1 by omega, List.range'_concat, Nat.mul_comm, Nat.mul_one, show j + (n - j) = n by omega]
theorem up_nil {j n : Nat} (h : n ≤ j) : up j n = [] := by
  unfold up
  rw [show n - j = 0 by omega]
  rfl
theorem up_mem {j n a : Nat} (h : a ∈ up j n) : j ≤ a ∧ a < n := by
  unfold up at h
  have := List.mem_range'_1.mp h
  omega
/-- the sum over rising choices for the letters i, i + 1, .. (m of them) from rows j on, below n; g of where it ends -/
def Bg (w : Nat → Nat → Rat) (n : Nat) (g : Nat → Rat) : Nat → Nat → Nat → Rat
  | _, 0, j => g j
  | i, m + 1, j => sumR ((up j n).map fun a => w i a * Bg w n g (i + 1) m (a + 1))
section
variable {w : Nat → Nat → Rat}
theorem Bg_last {n : Nat} {g : Nat → Rat} : ∀ (m i j : Nat), Bg w n g i (m + 1) j = Bg w n (fun j => sumR ((up j n).map fun a => w (i + m) a * g (a + 1))) i m j
  | 0, i, j => rfl
  | m + 1, i, j => by
    show sumR ((up j n).map fun a => w i a * Bg w n g (i + 1) (m + 1) (a + 1)) = sumR ((up j n).map fun a => w i a * Bg w n (fun j => sumR ((up j n).map fun a => w (i + (m + 1)) a * g (a + 1))) (i + 1) m (a + 1))
    refine sumR_congr fun a _ => ?_
    rw [Bg_last m (i + 1) (a + 1), show i + 1 + m = i + (m + 1) by omega]
/-- one row more -/
theorem Bg_row {n : Nat} : ∀ (m i j : Nat), j ≤ n → Bg w (n + 1) (fun _ => 1) i (m + 1) j = Bg w n (fun _ => 1) i (m + 1) j + Bg w n (fun _ => 1) i m j * w (i + m) n
  | 0, i, j, h => by
    show sumR ((up j (n + 1)).map fun a => w i a * 1) = sumR ((up j n).map fun a => w i a * 1) + 1 * w i n
    rw [up_succ h, List.map_append, sumR_app, Rat.one_mul]
    congr 1
    show w i n * 1 + 0 = w i n
    rw [Rat.mul_one, Rat.add_zero]
  | m + 1, i, j, h => by
    show sumR ((up j (n + 1)).map fun a => w i a * Bg w (n + 1) (fun _ => 1) (i + 1) (m + 1) (a + 1)) = sumR ((up j n).map fun a => w i a * Bg w n (fun _ => 1) (i + 1) (m + 1) (a + 1)) + sumR ((up j n).map fun a => w i a * Bg w n (fun _ => 1) (i + 1) m (a + 1)) * w (i + (m + 1)) n
    rw [up_succ h, List.map_append, sumR_app]
    have last : sumR ([n].map fun a => w i a * Bg w (n + 1) (fun _ => 1) (i + 1) (m + 1) (a + 1)) = 0 := by
      show w i n * sumR ((up (n + 1) (n + 1)).map _) + 0 = 0
      rw [up_nil (Nat.le_refl _), Rat.add_zero]
      exact Rat.mul_zero _
    rw [last, Rat.add_zero, Rat.mul_comm (sumR _) (w (i + (m + 1)) n), ← sumR_mul, List.map_map, ← sumR_add]
    refine sumR_congr fun a ha => ?_
    rw [Bg_row m (i + 1) (a + 1) (by have := up_mem ha; omega), Rat.mul_add, show i + 1 + m = i + (m + 1) by omega]
    congr 1
    show w i a * (Bg w n (fun _ => 1) (i + 1) m (a + 1) * w (i + (m + 1)) n) = w (i + (m + 1)) n * (w i a * Bg w n (fun _ => 1) (i + 1) m (a + 1))
    rw [← Rat.mul_assoc, Rat.mul_comm]
end
/-- the program's steps: k letters, the first n rows -/
def dpS (w : Nat → Nat → Rat) : Nat → Nat → Rat
  | 0, _ => 1
  | _ + 1, 0 => 0
  | k + 1, n + 1 => dpS w (k + 1) n + dpS w k n * w k n
theorem Bg_dp (w : Nat → Nat → Rat) : ∀ (n k : Nat), Bg w n (fun _ => 1) 0 k 0 = dpS w k n
  | _, 0 => by unfold dpS; rfl
  | 0, k + 1 => by
    show sumR ((up 0 0).map _) = dpS w (k + 1) 0
    rw [up_nil (Nat.le_refl _)]
    unfold dpS
    rfl
  | n + 1, k + 1 => by
    rw [Bg_row k 0 0 (Nat.zero_le _), Bg_dp w n (k + 1), Bg_dp w n k, Nat.zero_add]
    rw [dpS]
/-! the law's own choices -/
def st (l : List Nat) : Nat := match l.getLast? with
  | none => 0
  | some a => a + 1
def chs (n : Nat) : Nat → List (List Nat)
  | 0 => [[]]
  | k + 1 => (chs n k).flatMap fun one => (up (st one) n).map fun a => one ++ [a]
def pr (w : Nat → Nat → Rat) : Nat → List Nat → Rat
  | _, [] => 1
  | i, a :: as => w i a * pr w (i + 1) as
theorem pr_app {w : Nat → Nat → Rat} {a : Nat} : ∀ (l : List Nat) (i : Nat), pr w i (l ++ [a]) = pr w i l * w (i + l.length) a
  | [], i => by
    show w i a * 1 = 1 * w i a
    rw [Rat.mul_one, Rat.one_mul]
  | b :: l, i => by
    show w i b * pr w (i + 1) (l ++ [a]) = w i b * pr w (i + 1) l * w (i + (l.length + 1)) a
    rw [pr_app l (i + 1), Rat.mul_assoc, show i + 1 + l.length = i + (l.length + 1) by omega]
theorem chs_len {n : Nat} : ∀ {k : Nat} {l : List Nat}, l ∈ chs n k → l.length = k
  | 0, l, h => by
    rw [List.mem_singleton.mp h]
    rfl
  | k + 1, l, h => by
    obtain ⟨one, h1, h2⟩ := List.mem_flatMap.mp h
    obtain ⟨a, _, rfl⟩ := List.mem_map.mp h2
    rw [List.length_append, chs_len h1]
    rfl
theorem st_app (l : List Nat) (a : Nat) : st (l ++ [a]) = a + 1 := by
  unfold st
  simp
theorem chs_sum {w : Nat → Nat → Rat} {n : Nat} : ∀ (k : Nat) (g : Nat → Rat), sumR ((chs n k).map fun l => pr w 0 l * g (st l)) = Bg w n g 0 k 0
  | 0, g => by
    show 1 * g 0 + 0 = g 0
    rw [Rat.one_mul, Rat.add_zero]
  | k + 1, g => by
    show sumR (((chs n k).flatMap fun one => (up (st one) n).map fun a => one ++ [a]).map fun l => pr w 0 l * g (st l)) = _
    rw [sumR_flat, Bg_last k 0 0, ← chs_sum k]
    refine sumR_congr fun l hl => ?_
    rw [List.map_map, ← sumR_mul, List.map_map]
    refine sumR_congr fun a _ => ?_
    show pr w 0 (l ++ [a]) * g (st (l ++ [a])) = pr w 0 l * (w (0 + k) a * g (a + 1))
    rw [pr_app, st_app, chs_len hl, Rat.mul_assoc]
/-- the choices' products add up to what the steps tell -/
theorem chs_dp (w : Nat → Nat → Rat) (n k : Nat) : sumR ((chs n k).map (pr w 0)) = dpS w k n := by
  rw [← Bg_dp w n k, ← chs_sum k]
  refine sumR_congr fun l _ => ?_
  rw [Rat.mul_one]
end Pd

/-! Joined rows: the cuts' products add up; rows and letters turned about: the same sum. -/
namespace Pd
theorem sumR_mulr (c : Rat) (a : List Rat) : sumR (a.map fun x => x * c) = sumR a * c := by
  rw [Rat.mul_comm, ← sumR_mul]
  congr 1
  exact List.map_congr_left fun x _ => Rat.mul_comm _ _
theorem sumR_zero {α : Type} {f : α → Rat} : ∀ {a : List α}, (∀ x ∈ a, f x = 0) → sumR (a.map f) = 0
  | [], _ => rfl
  | x :: a, h => by
    show f x + sumR (a.map f) = 0
    rw [h x List.mem_cons_self, sumR_zero fun y hy => h y (List.mem_cons_of_mem _ hy), Rat.add_zero]
/-- letters from i on, rows from n on -/
def sh (w : Nat → Nat → Rat) (i n : Nat) : Nat → Nat → Rat := fun k a => w (i + k) (n + a)
theorem dp0 (w : Nat → Nat → Rat) (n : Nat) : dpS w 0 n = 1 := by
  cases n <;> rfl
theorem range_last (k : Nat) : List.range (k + 1) = List.range k ++ [k] := List.range_succ
theorem dp_join (w : Nat → Nat → Rat) (n : Nat) : ∀ (m k : Nat), dpS w k (n + m) = sumR ((List.range (k + 1)).map fun i => dpS w i n * dpS (sh w i n) (k - i) m)
  | 0, k => by
    rw [range_last, List.map_append, sumR_app, sumR_zero (f := fun i => dpS w i n * dpS (sh w i n) (k - i) 0) (fun i hi => by
      have := List.mem_range.mp hi
      show dpS w i n * dpS (sh w i n) (k - i) 0 = 0
      rw [show k - i = (k - i - 1) + 1 by omega]
      exact Rat.mul_zero _), Rat.zero_add]
    show dpS w k (n + 0) = dpS w k n * dpS (sh w k n) (k - k) 0 + 0
    rw [Nat.sub_self, dp0, Rat.mul_one, Rat.add_zero, Nat.add_zero]
  | m + 1, 0 => by
    rw [dp0]
    show 1 = dpS w 0 n * dpS (sh w 0 n) (0 - 0) (m + 1) + 0
    rw [dp0, Nat.sub_self, dp0, Rat.mul_one, Rat.add_zero]
  | m + 1, k + 1 => by
    have e : dpS w (k + 1) (n + (m + 1)) = dpS w (k + 1) (n + m) + dpS w k (n + m) * w k (n + m) := rfl
    rw [e, dp_join w n m (k + 1), dp_join w n m k, range_last (k + 1), List.map_append, List.map_append, sumR_app, sumR_app]
    have last : ∀ q, sumR ([k + 1].map fun i => dpS w i n * dpS (sh w i n) (k + 1 - i) q) = dpS w (k + 1) n := fun q => by
      show dpS w (k + 1) n * dpS (sh w (k + 1) n) (k + 1 - (k + 1)) q + 0 = _
      rw [Nat.sub_self, dp0, Rat.mul_one, Rat.add_zero]
    rw [last, last, Rat.add_comm (sumR _) (dpS w (k + 1) n), Rat.add_assoc, Rat.add_comm (dpS w (k + 1) n)]
    congr 1
    rw [← sumR_mulr, List.map_map, ← sumR_add]
    refine sumR_congr fun i hi => ?_
    have hk := List.mem_range.mp hi
    show dpS w i n * dpS (sh w i n) (k + 1 - i) m + dpS w i n * dpS (sh w i n) (k - i) m * w k (n + m) = dpS w i n * dpS (sh w i n) (k + 1 - i) (m + 1)
    rw [show k + 1 - i = (k - i) + 1 by omega]
    have s : dpS (sh w i n) (k - i + 1) (m + 1) = dpS (sh w i n) (k - i + 1) m + dpS (sh w i n) (k - i) m * sh w i n (k - i) m := rfl
    rw [s, Rat.mul_add, Rat.mul_assoc]
    congr 3
    show w k (n + m) = w (i + (k - i)) (n + m)
    rw [show i + (k - i) = k by omega]
/-! turned about -/
theorem up_head {j n : Nat} (h : j < n) : up j n = j :: up (j + 1) n := by
  unfold up
  rw [show n - j = (n - (j + 1)) + 1 by omega]
  rfl
theorem Bg_front {w : Nat → Nat → Rat} {n i m j : Nat} {g : Nat → Rat} (h : j < n) : Bg w n g i (m + 1) j = w i j * Bg w n g (i + 1) m (j + 1) + Bg w n g i (m + 1) (j + 1) := by
  show sumR ((up j n).map _) = _ + sumR ((up (j + 1) n).map _)
  rw [up_head h]
  rfl
def rv (w : Nat → Nat → Rat) (K N : Nat) : Nat → Nat → Rat := fun i a => w (K - 1 - i) (N - 1 - a)
theorem dp_rv {w : Nat → Nat → Rat} {K N : Nat} : ∀ (q m : Nat), m ≤ K → q ≤ N → dpS (rv w K N) m q = Bg w N (fun _ => 1) (K - m) m (N - q)
  | q, 0, _, _ => by
    rw [dp0]
    rfl
  | 0, m + 1, _, _ => by
    show 0 = sumR ((up (N - 0) N).map _)
    rw [up_nil (by omega)]
    rfl
  | q + 1, m + 1, hm, hq => by
    have s : dpS (rv w K N) (m + 1) (q + 1) = dpS (rv w K N) (m + 1) q + dpS (rv w K N) m q * rv w K N m q := rfl
    rw [s, dp_rv q (m + 1) hm (by omega), dp_rv q m (by omega) (by omega), Bg_front (show N - (q + 1) < N by omega), show N - (q + 1) + 1 = N - q by omega, show K - (m + 1) + 1 = K - m by omega, Rat.add_comm]
    congr 1
    rw [Rat.mul_comm]
    congr 1
    show w (K - 1 - m) (N - 1 - q) = w (K - (m + 1)) (N - (q + 1))
    rw [show K - 1 - m = K - (m + 1) by omega, show N - 1 - q = N - (q + 1) by omega]
/-- the turned word over the turned rows -/
theorem dp_turn (w : Nat → Nat → Rat) (k n : Nat) : dpS (rv w k n) k n = dpS w k n := by
  rw [dp_rv n k (Nat.le_refl _) (Nat.le_refl _), Nat.sub_self, Nat.sub_self, Bg_dp]
end Pd

/-! The sums behind: turned about, the last rows alone. -/
namespace Pd
theorem dp_congr {v w : Nat → Nat → Rat} {K N : Nat} (h : ∀ k a, k < K → a < N → v k a = w k a) : ∀ (a k : Nat), k ≤ K → a ≤ N → dpS v k a = dpS w k a
  | a, 0, _, _ => by rw [dp0, dp0]
  | 0, k + 1, _, _ => rfl
  | a + 1, k + 1, hk, ha => by
    show dpS v (k + 1) a + dpS v k a * v k a = dpS w (k + 1) a + dpS w k a * w k a
    rw [dp_congr h a (k + 1) hk (by omega), dp_congr h a k (by omega) (by omega), h k a (by omega) (by omega)]
theorem up_shift (s j n : Nat) : up (s + j) (s + n) = (up j n).map (s + ·) := by
  unfold up
  rw [List.map_add_range', show s + n - (s + j) = n - j by omega]
theorem Bg_shift {w : Nat → Nat → Rat} {s n : Nat} : ∀ (m i j : Nat), Bg w (s + n) (fun _ => 1) i m (s + j) = Bg (fun i a => w i (s + a)) n (fun _ => 1) i m j
  | 0, i, j => rfl
  | m + 1, i, j => by
    show sumR ((up (s + j) (s + n)).map _) = sumR ((up j n).map _)
    rw [up_shift, List.map_map]
    refine sumR_congr fun a _ => ?_
    show w i (s + a) * Bg w (s + n) (fun _ => 1) (i + 1) m (s + a + 1) = w i (s + a) * Bg (fun i a => w i (s + a)) n (fun _ => 1) (i + 1) m (a + 1)
    rw [Nat.add_assoc s a 1, Bg_shift m (i + 1) (a + 1)]
/-- the steps over the turned rows and letters tell the sum over the last rows -/
theorem dp_behind {w : Nat → Nat → Rat} {K n at_ : Nat} (h : at_ ≤ n) : dpS (rv w K n) K (n - at_) = dpS (fun i a => w i (at_ + a)) K (n - at_) := by
  rw [dp_rv (n - at_) K (Nat.le_refl _) (by omega), ← Bg_dp, Nat.sub_self, show n - (n - at_) = at_ by omega]
  have := Bg_shift (w := w) (s := at_) (n := n - at_) K 0 0
  rw [Nat.add_zero, show at_ + (n - at_) = n by omega] at this
  exact this
end Pd

/-! Lacings in general; counted lists. -/
namespace Pd
section
variable {α β : Type}
def stepR (x : α) (y : Nat → α) (xy : Nat → α) (prev : Nat → List (List α)) : Nat → List (List α)
  | 0 => (prev 0).map (· ++ [x])
  | j + 1 => (prev (j + 1)).map (· ++ [x]) ++ ((stepR x y xy prev j).map (· ++ [y j]) ++ (prev j).map (· ++ [xy j]))
/-- the lacings of i first things with j first ones -/
def lac (x y : Nat → α) (xy : Nat → Nat → α) : Nat → Nat → List (List α)
  | 0, j => [(List.range j).map y]
  | i + 1, j => stepR (x i) y (xy i) (lac x y xy i) j
theorem stepR_map (f : α → β) {x : α} {y xy : Nat → α} {p : Nat → List (List α)} {q : Nat → List (List β)} (h : ∀ j, q j = (p j).map (List.map f)) : ∀ j, stepR (f x) (fun k => f (y k)) (fun k => f (xy k)) q j = (stepR x y xy p j).map (List.map f)
  | 0 => by
    simp only [stepR, h, List.map_map]
    exact List.map_congr_left fun l _ => by simp
  | j + 1 => by
    simp only [stepR, h, stepR_map f h j, List.map_append, List.map_map]
    congr 1
    · exact List.map_congr_left fun l _ => by simp
    · congr 1 <;> exact List.map_congr_left fun l _ => by simp
theorem lac_map (f : α → β) (x y : Nat → α) (xy : Nat → Nat → α) : ∀ i j, lac (fun k => f (x k)) (fun k => f (y k)) (fun k l => f (xy k l)) i j = (lac x y xy i j).map (List.map f)
  | 0, j => by simp [lac]
  | i + 1, j => stepR_map f (lac_map f x y xy i) j
theorem lac_left (x y : Nat → α) (xy : Nat → Nat → α) : ∀ i, lac x y xy i 0 = [(List.range i).map x]
  | 0 => rfl
  | i + 1 => by
    show (lac x y xy i 0).map (· ++ [x i]) = _
    rw [lac_left x y xy i, List.range_succ, List.map_append]
    rfl
/-! slots: which letters stand in a place -/
abbrev Sl := Option Nat × Option Nat
def sx (i : Nat) : Sl := (some i, none)
def sy (j : Nat) : Sl := (none, some j)
def sxy (i j : Nat) : Sl := (some i, some j)
def flipS (s : Sl) : Sl := (s.2, s.1)
def ixF (p : Nat) : List Nat → Option Nat
  | [] => none
  | n :: ns => if n = p then some 0 else (ixF p ns).map (· + 1)
/-- the law's own: by chosen places -/
def llm (m i j : Nat) : List (List Sl) := (chs m i).flatMap fun near => (chs m j).flatMap fun far =>
  if (List.range m).all (fun p => near.contains p || far.contains p) then [(List.range m).map fun p => (ixF p near, ixF p far)] else []
def llg (i j : Nat) : List (List Sl) := (List.range' (max i j) (i + j + 1 - max i j)).flatMap fun m => llm m i j
theorem ll_perm : ((List.range 4).all fun i => (List.range 3).all fun j => (lac sx sy sxy i j).isPerm (llg i j)) = true := by decide +kernel
theorem ll_perm2 : ((List.range 4).all fun i => (List.range 3).all fun j => ((lac sx sy sxy j i).map (List.map flipS)).isPerm (llg i j)) = true := by decide +kernel
theorem ll_ok {i j : Nat} (hi : i ≤ 3) (hj : j ≤ 2) : (lac sx sy sxy i j).Perm (llg i j) := List.isPerm_iff.mp (List.all_eq_true.mp (List.all_eq_true.mp ll_perm i (List.mem_range.mpr (by omega))) j (List.mem_range.mpr (by omega)))
theorem ll_ok2 {i j : Nat} (hi : i ≤ 3) (hj : j ≤ 2) : ((lac sx sy sxy j i).map (List.map flipS)).Perm (llg i j) := List.isPerm_iff.mp (List.all_eq_true.mp (List.all_eq_true.mp ll_perm2 i (List.mem_range.mpr (by omega))) j (List.mem_range.mpr (by omega)))
end
/-! counted lists -/
section
variable {α : Type} [DecidableEq α]
def putW : List (α × Nat) → α → Nat → List (α × Nat)
  | [], k, n => [(k, n)]
  | p :: r, k, n => if p.1 = k then (p.1, n) :: r else p :: putW r k n
def getW : List (α × Nat) → α → Nat
  | [], _ => 0
  | p :: r, k => if p.1 = k then p.2 else getW r k
def addW (kv : List (α × Nat)) (k : α) (n : Nat) : List (α × Nat) := putW kv k (getW kv k + n)
def exW (kv : List (α × Nat)) : List α := kv.flatMap fun p => List.replicate p.2 p.1
structure Rep (kv : List (α × Nat)) (l : List α) : Prop where
  nd : (kv.map (·.1)).Nodup
  pos : ∀ p ∈ kv, 0 < p.2
  pm : (exW kv).Perm l
theorem Rep.nil : Rep ([] : List (α × Nat)) [] := ⟨List.nodup_nil, fun p h => (List.not_mem_nil h).elim, List.Perm.refl _⟩
theorem put_keys (k : α) (n : Nat) : ∀ kv : List (α × Nat), (putW kv k n).map (·.1) = if k ∈ kv.map (·.1) then kv.map (·.1) else kv.map (·.1) ++ [k]
  | [] => rfl
  | p :: r => by
    have ih := put_keys k n r
    by_cases h : p.1 = k
    · have m : k ∈ (p :: r).map (·.1) := by simp [h]
      rw [if_pos m]
      simp [putW, h]
    · by_cases m : k ∈ r.map (·.1)
      · have m2 : k ∈ (p :: r).map (·.1) := List.mem_cons_of_mem _ m
        rw [if_pos m2]
        rw [if_pos m] at ih
        simp only [putW, if_neg h, List.map_cons, ih]
      · have m2 : ¬ k ∈ (p :: r).map (·.1) := fun z => (List.mem_cons.mp z).elim (fun e => h e.symm) m
        rw [if_neg m2]
        rw [if_neg m] at ih
        simp only [putW, if_neg h, List.map_cons, ih, List.cons_append]
theorem ex_add (k : α) (n : Nat) : ∀ kv : List (α × Nat), (exW (addW kv k n)).Perm (exW kv ++ List.replicate n k)
  | [] => by simp [addW, putW, getW, exW]
  | p :: r => by
    have ih := ex_add k n r
    unfold addW at ih ⊢
    by_cases h : p.1 = k
    · have e : exW (putW (p :: r) k (getW (p :: r) k + n)) = List.replicate (p.2 + n) k ++ exW r := by simp [putW, getW, h, exW]
      have e2 : exW (p :: r) = List.replicate p.2 k ++ exW r := by simp [exW, h]
      rw [e, e2, ← List.replicate_append_replicate, List.append_assoc, List.append_assoc]
      exact (List.Perm.refl _).append List.perm_append_comm
    · have e : exW (putW (p :: r) k (getW (p :: r) k + n)) = List.replicate p.2 p.1 ++ exW (putW r k (getW r k + n)) := by simp [putW, getW, h, exW]
      have e2 : exW (p :: r) = List.replicate p.2 p.1 ++ exW r := by simp [exW]
      rw [e, e2, List.append_assoc]
      exact (List.Perm.refl _).append ih
theorem put_pos {k : α} {n : Nat} (hn : 0 < n) : ∀ {kv : List (α × Nat)}, (∀ p ∈ kv, 0 < p.2) → ∀ p ∈ putW kv k n, 0 < p.2
  | [], _, p, hp => by
    rw [List.mem_singleton.mp hp]
    exact hn
  | q :: r, h, p, hp => by
    by_cases e : q.1 = k
    · simp only [putW, if_pos e] at hp
      rcases List.mem_cons.mp hp with rfl | hp
      · exact hn
      · exact h p (List.mem_cons_of_mem _ hp)
    · simp only [putW, if_neg e] at hp
      rcases List.mem_cons.mp hp with rfl | hp
      · exact h _ List.mem_cons_self
      · exact put_pos hn (fun x hx => h x (List.mem_cons_of_mem _ hx)) p hp
theorem Rep.add {kv : List (α × Nat)} {l : List α} (h : Rep kv l) (k : α) {n : Nat} (hn : 0 < n) : Rep (addW kv k n) (l ++ List.replicate n k) where
  nd := by
    unfold addW
    rw [put_keys]
    by_cases m : k ∈ kv.map (·.1)
    · rw [if_pos m]; exact h.nd
    · rw [if_neg m]
      exact List.nodup_append.mpr ⟨h.nd, by simp, fun a ha b hb => by
        rw [List.mem_singleton.mp hb]
        exact fun e => m (e ▸ ha)⟩
  pos := put_pos (by omega) h.pos
  pm := (ex_add k n kv).trans (h.pm.append (List.Perm.refl _))
theorem count_ex (k : α) : ∀ {kv : List (α × Nat)}, (kv.map (·.1)).Nodup → (exW kv).count k = getW kv k
  | [], _ => rfl
  | p :: r, nd => by
    have nd' := List.nodup_cons.mp nd
    have ih := count_ex k nd'.2
    have e : exW (p :: r) = List.replicate p.2 p.1 ++ exW r := by simp [exW]
    rw [e, List.count_append, List.count_replicate, ih]
    by_cases h : p.1 = k
    · have z : getW r k = 0 := by
        rw [← ih]
        refine List.count_eq_zero.mpr fun m => ?_
        obtain ⟨q, hq, hk⟩ := List.mem_flatMap.mp m
        have := List.eq_of_mem_replicate hk
        exact nd'.1 (List.mem_map.mpr ⟨q, hq, by show q.1 = p.1; rw [← this, h]⟩)
      rw [z]
      simp [getW, h]
    · simp [getW, h]
theorem Rep.get {kv : List (α × Nat)} {l : List α} (h : Rep kv l) (k : α) : getW kv k = l.count k := by
  rw [← count_ex k h.nd]
  exact h.pm.count_eq k
theorem get_at : ∀ {kv : List (α × Nat)}, (kv.map (·.1)).Nodup → ∀ p ∈ kv, getW kv p.1 = p.2
  | [], _, p, hp => (List.not_mem_nil hp).elim
  | q :: r, nd, p, hp => by
    have nd' := List.nodup_cons.mp nd
    rcases List.mem_cons.mp hp with rfl | hp
    · simp [getW]
    · have ne : q.1 ≠ p.1 := fun e => nd'.1 (List.mem_map.mpr ⟨p, hp, e.symm⟩)
      simp only [getW, if_neg ne]
      exact get_at nd'.2 p hp
theorem Rep.mem {kv : List (α × Nat)} {l : List α} (h : Rep kv l) (k : α) : k ∈ kv.map (·.1) ↔ k ∈ l := by
  constructor
  · intro m
    obtain ⟨p, hp, rfl⟩ := List.mem_map.mp m
    refine h.pm.mem_iff.mp (List.mem_flatMap.mpr ⟨p, hp, ?_⟩)
    exact List.mem_replicate.mpr ⟨by have := h.pos p hp; omega, rfl⟩
  · intro m
    obtain ⟨p, hp, e⟩ := List.mem_flatMap.mp (h.pm.mem_iff.mpr m)
    exact List.mem_map.mpr ⟨p, hp, (List.eq_of_mem_replicate e).symm⟩
theorem Rep.keys {kv kv' : List (α × Nat)} {l l' : List α} (h : Rep kv l) (g : Rep kv' l') (p : l.Perm l') : (kv.map (·.1)).Perm (kv'.map (·.1)) :=
  (List.perm_ext_iff_of_nodup h.nd g.nd).mpr fun k => by rw [h.mem, g.mem, p.mem_iff]
theorem Rep.len {kv : List (α × Nat)} {l : List α} (h : Rep kv l) : kv.length ≤ l.length := by
  rw [← h.pm.length_eq]
  have : ∀ {kv : List (α × Nat)}, (∀ p ∈ kv, 0 < p.2) → kv.length ≤ (exW kv).length := fun {kv} => by
    induction kv with
    | nil => intro _; exact Nat.zero_le _
    | cons p r ih =>
      intro h
      have e : exW (p :: r) = List.replicate p.2 p.1 ++ exW r := by simp [exW]
      have a := h p List.mem_cons_self
      have b := ih fun q hq => h q (List.mem_cons_of_mem _ hq)
      rw [e, List.length_append, List.length_replicate, List.length_cons]
      omega
  exact this h.pos
end
end Pd

namespace Pd
open PySem L2 PySem.Spec PyProof.Rows
abbrev topR (i : Nat) : Stmt := PySem.Challenge.pw_aheadsums_k25_whole_lacings_of_three_and.main.body.getD i (.Pass ⟨0, 0, 0, 0⟩)
theorem iteT' {b : Bool} {p q : Prop} (h : b = true) (x : p) : if b = true then p else q := by rw [if_pos h]; exact x
theorem iteF' {b : Bool} {p q : Prop} (h : b = false) (x : q) : if b = true then p else q := by rw [if_neg (by rw [h]; exact Bool.false_ne_true)]; exact x
abbrev s__law_put : Stmt := topR 39
theorem sc__law_put : FnScope ["_law_found", "_law_key", "_law_often"] ["_law_found", "_law_key", "_law_often"] (defScope s__law_put) := ⟨rfl, rfl, rfl, by decide +kernel, rfl, by decide +kernel, by decide +kernel⟩
section
variable {P : Program} {w : World} {K : PySem.W.Frag} {mg : Str → Option Value} {base : Heap} {a_f : Addr} {d_f : FuncData}
theorem g__law_put (F : Fun K "_law_put" "_law_put" s__law_put a_f d_f) : FnOk P w K mg base CX0 1 a_f d_f ["_law_found", "_law_key", "_law_often"] (spPut K P w) := by
  have nd := sc__law_put.nd
  refine F.ok (k := 0) sc__law_put (fun vs H Q E h => ?_) (fun cdv A outer s H vs Q E hr h => ⟨_, pss_one (ps_putN (i := 0) hr.units rfl (by first | exact Or.inl rfl | exact Or.inr (Or.inl rfl) | exact Or.inr (Or.inr rfl)) (by decide) (by decide) rfl), ?_⟩)
  · obtain ⟨l, b, xs, k, n, m, rfl, _⟩ := h
    rfl
  · obtain ⟨l, b, xs, k, n, m, rfl, hl, en, kk, hz, hv, q⟩ := h
    refine ⟨_, pe_op op_add (pe_getN (i := 0) hr.units rfl (by first | exact Or.inl rfl | exact Or.inr (Or.inl rfl) | exact Or.inr (Or.inr rfl)) (by decide) (by decide) ⟨rfl, rfl, rfl, rfl⟩) (pv 2), ?_⟩
    refine ⟨l, xs, rfl, .inl hl, en, ⟨_, pv 1, _, rfl, ⟨_, pe_int, b, k, rfl, .inl hl, en, kk, ?_⟩⟩⟩
    rw [hv]
    refine ⟨_, rfl, m, n, rfl, rfl, ?_⟩
    exact ⟨l, rfl, ⟨_, pv 1, _, rfl, b, xs, k, rfl, hl, en, kk, hz, q⟩⟩
end
section
variable {P : Program} {w : World} {K : PySem.W.Frag} {mg : Str → Option Value} {base : Heap} {a_draw : Addr}
abbrev s_draw : Stmt := topR 33
theorem sc_draw : FnScope ["_law_pot_here", "_law_many", "_law_digit"] ["_law_pot_here", "_law_many"] (defScope s_draw) := ⟨rfl, rfl, rfl, by decide +kernel, rfl, by decide +kernel, by decide +kernel⟩
theorem g_draw {d_draw : FuncData} (F : Fun K "_law_draw" "_law_draw" s_draw a_draw d_draw) (zd : mg "divmod" = none) (zi : mg "int" = none) : FnOk P w K mg base CX0 1 a_draw d_draw ["_law_pot_here", "_law_many"] (spD K P w 2 f__law_draw) := by
  have nd := sc_draw.nd
  refine F.ok (k := 0) sc_draw (fun vs H Q E h => ?_) (fun cdv A outer s H vs Q E hr h => ⟨_, pss_cons (ps_if (pt_cmpR op_gt (pe_ix ix_list (pv 0) pe_int (fun _ _ => rfl)) pe_int (nomark _))
    (pss_cons (ps_asg (pe_callB call_divmod rfl zd (by decide +kernel) (pa_cons (pe_ix ix_list (pv 0) pe_int (fun _ _ => rfl)) (pa_cons (pv 1) pa_nil))) (pg_tup rfl (pgs_cons (pg_sub (pv 0) pe_int set_list) (pgs_cons (pg_name (i := 2) nd rfl (.inl rfl)) pgs_nil)))) (pss_one (ps_ret (pv 2)))) pss_nil)
    (pss_cons (ps_asg (pe_op op_mod (pe_callTy call_int1 rfl zi (by decide +kernel) (pa_cons (pe_op op_add (pe_op op_mul (pe_ix ix_list (pv 0) pe_int (fun _ _ => rfl)) pe_int) pe_int) pa_nil)) pe_int) (pg_sub (pv 0) pe_int set_list))
    (pss_one (ps_ret (pe_op op_mod (pe_callTy call_int1 rfl zi (by decide +kernel) (pa_cons (pe_op op_fdiv (pe_op op_mod (pe_callTy call_int1 rfl zi (by decide +kernel) (pa_cons (pe_op op_mul (pe_ix ix_list (pv 0) pe_int (fun _ _ => rfl)) (pe_ix ix_list (pv 0) pe_int (fun _ _ => rfl))) pa_nil)) pe_int) pe_int) pa_nil)) (pv 1))))), ?_⟩)
  · obtain ⟨π, N, ds, hn, r, hl, _⟩ := h
    exact hl
  · obtain ⟨π, N, ds, hn, r, hl, hall⟩ := h
    unfold f__law_draw at hall
    split at hall
    · rename_i n
      cases r with
      | cons r1 r =>
      cases r with
      | cons r2 r =>
      cases r
      cases r1
      cases r2
      obtain ⟨hb, hall⟩ := cond_all hall
      simp only [Bool.and_eq_true, decide_eq_true_eq] at hb
      obtain ⟨n0, n1⟩ := hb
      obtain ⟨x, y, hp, hx, hy, hy2⟩ := hn.pot
      have got : ∀ i : Int, 0 ≤ i → i < n → ∀ H', Ex π H H' → Q (.int i) H' := fun i i0 i1 H' e => by
        have q := hall i.toNat (by omega)
        have ei : ((i.toNat : Nat) : Int) = i := Int.toNat_of_nonneg i0
        have z := q (.int i) H' e
        rw [ei] at z
        exact z (.int i)
      refine ⟨_, rfl, π, _, 0, .int x, rfl, rfl, .inl (.inl hp), rfl, _, _, rfl, rfl, _, rfl, ?_⟩
      by_cases c : 0 < x
      · refine iteT' (decide_eq_true c) ?_
        refine ⟨_, rfl, π, _, 0, .int x, rfl, rfl, .inl (.inl hp), rfl, _, rfl, x, n, rfl, ⟨n0, by omega⟩, fun p pn => ?_⟩
        have ppi : p ≠ π := hn.pot.ne pn
        have h1 : upd H p (.tup [.int (x / n), .int (x % n)]) π = some (.lst [.int x, .int y]) := by rw [upd_ne ppi.symm]; exact hp
        refine ⟨p, _, rfl, .inl (.inl upd_same), rfl, _, _, rfl, ⟨_, rfl, π, _, 0, 0, rfl, rfl, h1, rfl, ?_⟩⟩
        refine ⟨_, _, rfl, ?_⟩
        show [] = [] ∧ _
        refine ⟨rfl, ?_⟩
        refine ⟨_, rfl, got (x % n) (Int.emod_nonneg x (by omega)) (Int.emod_lt_of_pos x n0) _ ⟨fun a o ne e => ?_, x / n, y, by rw [upd_same]; rfl, Int.ediv_nonneg hx (by omega), hy, hy2⟩⟩
        rw [upd_ne ne, upd_ne (ne_of_none e pn)]
        exact e
      · refine iteF' (decide_eq_false c) ?_
        have m1 : CMul y 39373 := .inl ⟨by omega, by omega⟩
        refine ⟨_, rfl, π, _, 1, .int y, rfl, rfl, .inl (.inl hp), rfl, _, _, rfl, rfl, m1, _, _, rfl, rfl, .inl ⟨_, rfl, _, _, rfl, rfl, (show (0 : Int) < 2147483587 by decide), _, rfl, π, _, 1, 1, rfl, rfl, hp, rfl, ?_⟩⟩
        have hy3 : 0 ≤ (y * 39373 + 733) % 2147483587 := Int.emod_nonneg _ (by decide)
        have hy4 : (y * 39373 + 733) % 2147483587 < 2147483587 := Int.emod_lt_of_pos _ (by decide)
        have h1 : upd H π (.lst ([.int x, .int y].set 1 (.int ((y * 39373 + 733) % 2147483587)))) π = some (.lst [.int x, .int ((y * 39373 + 733) % 2147483587)]) := upd_same
        have m2 : CMul ((y * 39373 + 733) % 2147483587) ((y * 39373 + 733) % 2147483587) := .inl ⟨by omega, by omega⟩
        refine ⟨_, rfl, π, _, 1, .int ((y * 39373 + 733) % 2147483587), rfl, rfl, .inl (.inl h1), rfl, _, rfl, π, _, 1, .int ((y * 39373 + 733) % 2147483587), rfl, rfl, .inl (.inl h1), rfl, _, _, rfl, rfl, m2, .inl ⟨_, rfl, _, _, rfl, rfl, (show (0 : Int) < 2147483563 by decide), _, _, rfl, rfl, (show CDiv _ 17 from ⟨by decide, by decide⟩), .inl ⟨_, rfl, _, rfl, _, _, rfl, rfl, n0, ?_⟩⟩⟩
        refine got _ (Int.emod_nonneg _ (by omega)) (Int.emod_lt_of_pos _ n0) _ ⟨fun a o ne e => ?_, x, ((y * 39373 + 733) % 2147483587), h1, hx, hy3, by omega⟩
        rw [upd_ne ne]
        exact e
    · exact False.elim hall
/-! the pot -/
def spPot (K : PySem.W.Frag) : Sp := fun vs H Q _ => ∃ (a : Addr) (ns : List Int) (k : Nat), vs = [.ref a, .int (k : Nat)] ∧ k < 1000 ∧ SqL K H a (ns.map V.int) ∧ ∀ (p : Addr) (x y : Int), H p = none → 0 ≤ x → 0 ≤ y → y < 2147483648 → Q (.ref p) (upd H p (.lst [.int x, .int y]))
abbrev s_pot : Stmt := topR 32
theorem sc_pot : FnScope ["_law_script", "_law_k", "_law_cell"] ["_law_script", "_law_k"] (defScope s_pot) := ⟨rfl, rfl, rfl, by decide +kernel, rfl, by decide +kernel, by decide +kernel⟩
abbrev rInt1 : List V → Hp → VK → Prop := fun xs H Q => (∃ i, xs = [V.int i] ∧ Q (V.int i) H) ∨ ∃ k, xs = [V.bl k] ∧ Q (V.int (if k = true then 1 else 0)) H
def potTe : TE := tLst (tCons (tCB (fun xs H Q => ∃ i j, xs = [V.int i, V.int j] ∧ Q (V.int (if j > i then j else i)) H) (tCons (tC (V.int 0)) (tCons (tOp (rI0 fun i j => V.int (i - j)) (tVar 2) (tOp (rI CPow fun i j => V.int (i ^ j.toNat)) (tC (V.int 10)) (tC (V.int 18)))) tNil)))
  (tCons (tOp (rI0 fun i j => V.int (i + j)) (tOp (rI (fun x j => 0 < j) fun i j => V.int (i % j)) (tCB rInt1 (tCons (tOp (rI0 fun i j => V.int (i + j)) (tOp (rI0 fun i j => V.int (i + j)) (tOp (rI CMul fun i j => V.int (i * j)) (tOp (rI (fun x j => 0 < j) fun i j => V.int (i % j)) (tCB rInt1 (tCons (tVar 2) tNil)) (tC (V.int 2147483549))) (tC (V.int 48271)))
    (tOp (rI CMul fun i j => V.int (i * j)) (tC (V.int 29742)) (tVar 1))) (tC (V.int 733))) tNil)) (tC (V.int 2147483563))) (tC (V.int 1))) tNil))
theorem potTail {De : Ends} {Q : VK} {a : Addr} {k : Nat} {H : Hp} {c : Int} {Nm : List Str} (hN : Nm.length = 3) (hQ : De.rt = Q) (q : ∀ (p : Addr) (x y : Int), H p = none → 0 ≤ x → 0 ≤ y → y < 2147483648 → Q (.ref p) (upd H p (.lst [.int x, .int y]))) (hk : k < 1000) (c0 : 0 ≤ c) :
    tRet potTe De ((L2.start Nm [.ref a, .int (k : Nat)]).set 2 (some (.int c))) H := by
  subst hQ
  have e2 : ((L2.start Nm [.ref a, .int (k : Nat)]).set 2 (some (.int c)))[2]? = some (some (.int c)) := by
    rw [List.getElem?_set_self]
    unfold L2.start
    rw [List.length_append, List.length_map, List.length_replicate, hN]
    exact (by decide : 2 < 2 + (3 - 2))
  have e1 : ((L2.start Nm [.ref a, .int (k : Nat)]).set 2 (some (.int c)))[1]? = some (some (.int (k : Nat))) := rfl
  have m1 : CMul (c % 2147483549) 48271 := .inr ⟨by decide, by decide⟩
  have m2 : CMul 29742 ((k : Nat) : Int) := .inl ⟨by decide, by decide⟩
  have y0 := Int.emod_nonneg (c % 2147483549 * 48271 + 29742 * ((k : Nat) : Int) + 733) (show (2147483563 : Int) ≠ 0 by decide)
  have y1 := Int.emod_lt_of_pos (c % 2147483549 * 48271 + 29742 * ((k : Nat) : Int) + 733) (show (0 : Int) < 2147483563 by decide)
  refine ⟨_, e2, _, _, rfl, rfl, ⟨by decide, by decide, by decide⟩, _, _, rfl, rfl, _, _, rfl, _, e2, .inl ⟨_, rfl, _, _, rfl, rfl, (show (0 : Int) < 2147483549 by decide), _, _, rfl, rfl, m1, _, e1, _, _, rfl, rfl, m2, _, _, rfl, rfl, _, _, rfl, rfl, .inl ⟨_, rfl, _, _, rfl, rfl, (show (0 : Int) < 2147483563 by decide), _, _, rfl, rfl, by show 2 ≤ sizeLine; decide, fun p hp => q p _ _ hp ?_ (by omega) (by omega)⟩⟩⟩
  split <;> omega
theorem g_pot {a_pot : Addr} {d_pot : FuncData} (F : Fun K "_law_pot" "_law_pot" s_pot a_pot d_pot) (za : mg "abs" = none) (zl : mg "len" = none) (zm : mg "max" = none) (zi : mg "int" = none) : FnOk P w K mg base CX0 1 a_pot d_pot ["_law_script", "_law_k"] (spPot K) := by
  have nd := sc_pot.nd
  refine F.ok (k := 0) sc_pot (fun vs H Q E h => ?_) (fun cdv A outer s H vs Q E hr h => ⟨_, pss_cons (ps_set (i := 2) nd rfl (.inl rfl) (pe_ifExp (pt_cmpR op_lt (pv 1) (pe_callB call_len_seq rfl zl (by decide +kernel) (pa_cons (pv 0) pa_nil)) (nomark _))
    (pe_callB call_abs rfl za (by decide +kernel) (pa_cons (pe_ix ix_list (pv 0) (pv 1) (fun _ _ => rfl)) pa_nil)) (pe_op op_add (pe_op op_mul pe_int (pv 1)) pe_int)))
    (pss_one (ps_ret (pe_lst (pa_cons (pe_callB (call_max2 rfl) rfl zm (by decide +kernel) (pa_cons pe_int (pa_cons (pe_op op_sub (pv 2) (pe_op op_pow pe_int pe_int)) pa_nil)))
      (pa_cons (pe_op op_add (pe_op op_mod (pe_callTy call_int1 rfl zi (by decide +kernel) (pa_cons (pe_op op_add (pe_op op_add (pe_op op_mul (pe_op op_mod (pe_callTy call_int1 rfl zi (by decide +kernel) (pa_cons (pv 2) pa_nil)) pe_int) pe_int) (pe_op op_mul pe_int (pv 1))) pe_int) pa_nil)) pe_int) pe_int) pa_nil))))), ?_⟩)
  · obtain ⟨a, ns, k, rfl, _⟩ := h
    rfl
  · obtain ⟨a, ns, k, rfl, hk, hs, q⟩ := h
    refine ⟨_, rfl, _, rfl, a, _, rfl, .inl hs, _, _, rfl, rfl, _, rfl, ?_⟩
    have hlt : decide (((k : Nat) : Int) < ((ns.map V.int).length : Nat)) = decide (k < ns.length) := by
      rw [List.length_map]
      exact decide_eq_decide.mpr (by omega)
    rcases Nat.lt_or_ge k ns.length with c | c
    · refine iteT' (hlt.trans (decide_eq_true c)) ?_
      refine ⟨_, rfl, _, rfl, a, _, (k : Nat), _, rfl, rfl, hs, atI_cell c, _, rfl, ?_⟩
      have c0 : 0 ≤ (if cellOf ns k < 0 then -cellOf ns k else cellOf ns k) := by split <;> omega
      exact potTail (Nm := ["_law_script", "_law_k", "_law_cell"]) rfl rfl q hk c0
    · refine iteF' (hlt.trans (decide_eq_false (by omega))) ?_
      refine ⟨_, rfl, _, _, rfl, rfl, (.inl ⟨by decide, by decide⟩ : CMul 977 ((k : Nat) : Int)), _, _, rfl, rfl, ?_⟩
      have c0 : 0 ≤ 977 * ((k : Nat) : Int) + 823 := by omega
      exact potTail (Nm := ["_law_script", "_law_k", "_law_cell"]) rfl rfl q hk c0
end

/-- what stands around -/
structure Wd (P : Program) (w : World) (K : PySem.W.Frag) (mg : Str → Option Value) (base : Heap) : Prop where
  kn : KnownC K []
  z_all : mg "all" = none
  z_bool : mg "bool" = none
  z_enumerate : mg "enumerate" = none
  z_int : mg "int" = none
  z_isinstance : mg "isinstance" = none
  z_len : mg "len" = none
  z_list : mg "list" = none
  z_max : mg "max" = none
  z_range : mg "range" = none
  z_sorted : mg "sorted" = none
  z_tuple : mg "tuple" = none
  z_zip : mg "zip" = none
  c_MOST_COLUMNS : ∃ t, mg "MOST_COLUMNS" = some (.int 3 t)
  c_MOST_LACINGS : ∃ t, mg "MOST_LACINGS" = some (.int 400 t)
  c_MOST_LETTERS : ∃ t, mg "MOST_LETTERS" = some (.int 8 t)
  c_MOST_POWER : ∃ t, mg "MOST_POWER" = some (.int 8 t)
section
variable {P : Program} {w : World} {K : PySem.W.Frag} {mg : Str → Option Value} {base : Heap} {a_f : Addr} {d_f : FuncData}
abbrev s_is_integer : Stmt := topR 9
theorem sc_is_integer : FnScope ["value"] ["value"] (defScope s_is_integer) := ⟨rfl, rfl, rfl, by decide +kernel, rfl, by decide +kernel, by decide +kernel⟩
def m_is_integer : Rho → T Out := (sRet (eAnd (eUn (isDY [] .int) (eVar 0)) (eNot (eUn (isDY [] .bool) (eVar 0)))))
def f_is_integer : List D → T D := runB 1 m_is_integer
theorem g_is_integer (F : Fun K "is_integer" "is_integer" s_is_integer a_f d_f) (W : Wd P w K mg base)  : FnOk P w K mg base CX0 1 a_f d_f ["value"] (spD K P w 1 f_is_integer) := by
  have nd := sc_is_integer.nd
  refine fn_ok (n := 1) (p := 1) (m := m_is_integer) (k := 0) F sc_is_integer rfl rfl rfl (fun cdv A outer s H E hr => ?_)
  exact (b_one (ss_ret (s_and (s_isinstY [] (k := .int) W.kn W.z_isinstance W.z_int (by decide +kernel) (sv 0)) (s_one (s_not (s_isinstY [] (k := .bool) W.kn W.z_isinstance W.z_bool (by decide +kernel) (sv 0)))))))
abbrev s_is_count : Stmt := topR 10
theorem sc_is_count : FnScope ["value"] ["value"] (defScope s_is_count) := ⟨rfl, rfl, rfl, by decide +kernel, rfl, by decide +kernel, by decide +kernel⟩
def m_is_count : Rho → T Out := (sRet (eAnd (eCall 1 f_is_integer (aCons (eVar 0) aNil)) (eBin opGe (eVar 0) (eC (.int 0)))))
def f_is_count : List D → T D := runB 1 m_is_count
theorem g_is_count (F : Fun K "is_count" "is_count" s_is_count a_f d_f) (W : Wd P w K mg base) (p_is_integer : Pm P w K mg base "is_integer" 1 1 ["value"] f_is_integer) : FnOk P w K mg base CX0 2 a_f d_f ["value"] (spD K P w 1 f_is_count) := by
  have nd := sc_is_count.nd
  refine fn_ok (n := 1) (p := 1) (m := m_is_count) (k := 1) F sc_is_count rfl rfl rfl (fun cdv A outer s H E hr => ?_)
  exact (b_one (ss_ret (s_and (s_callP p_is_integer (hr.mono (by decide)) (sa_cons (sv 0) sa_nil)) (s_one (s_cmp os_ge (sv 0) s_int (nomark _))))))
abbrev s_is_count_to : Stmt := topR 11
theorem sc_is_count_to : FnScope ["value", "most"] ["value", "most"] (defScope s_is_count_to) := ⟨rfl, rfl, rfl, by decide +kernel, rfl, by decide +kernel, by decide +kernel⟩
def m_is_count_to : Rho → T Out := (sRet (eAnd (eCall 1 f_is_count (aCons (eVar 0) aNil)) (eBin opLe (eVar 0) (eVar 1))))
def f_is_count_to : List D → T D := runB 2 m_is_count_to
theorem g_is_count_to (F : Fun K "is_count_to" "is_count_to" s_is_count_to a_f d_f) (W : Wd P w K mg base) (p_is_count : Pm P w K mg base "is_count" 2 1 ["value"] f_is_count) : FnOk P w K mg base CX0 3 a_f d_f ["value", "most"] (spD K P w 2 f_is_count_to) := by
  have nd := sc_is_count_to.nd
  refine fn_ok (n := 2) (p := 2) (m := m_is_count_to) (k := 2) F sc_is_count_to rfl rfl rfl (fun cdv A outer s H E hr => ?_)
  exact (b_one (ss_ret (s_and (s_callP p_is_count (hr.mono (by decide)) (sa_cons (sv 0) sa_nil)) (s_one (s_cmp os_le (sv 0) (sv 1) (nomark _))))))
abbrev s_need_columns : Stmt := topR 12
theorem sc_need_columns : FnScope ["columns"] ["columns"] (defScope s_need_columns) := ⟨rfl, rfl, rfl, by decide +kernel, rfl, by decide +kernel, by decide +kernel⟩
def m_need_columns : Rho → T Out := (sIf (tNot' (eTest (eCall 2 f_is_count_to (aCons (eVar 0) (aCons (eC (.int 3)) aNil))))) sFail bNil)
def f_need_columns : List D → T D := runB 1 m_need_columns
theorem g_need_columns (F : Fun K "need_columns" "need_columns" s_need_columns a_f d_f) (W : Wd P w K mg base) (p_is_count_to : Pm P w K mg base "is_count_to" 3 2 ["value", "most"] f_is_count_to) : FnOk P w K mg base CX0 4 a_f d_f ["columns"] (spD K P w 1 f_need_columns) := by
  have nd := sc_need_columns.nd
  refine fn_ok (n := 1) (p := 1) (m := m_need_columns) (k := 3) F sc_need_columns rfl rfl rfl (fun cdv A outer s H E hr => ?_)
  exact (b_one (ss_if (st_not (st_val (s_callP p_is_count_to (hr.mono (by decide)) (sa_cons (sv 0) (sa_cons (s_globI W.c_MOST_COLUMNS) sa_nil))))) (b_one ss_fail) b_nil))
abbrev s_is_letter_to : Stmt := topR 16
theorem sc_is_letter_to : FnScope ["columns", "value", "most", "power"] ["columns", "value", "most"] (defScope s_is_letter_to) := ⟨rfl, rfl, rfl, by decide +kernel, rfl, by decide +kernel, by decide +kernel⟩
def m_is_letter_to : Rho → T Out := (bSeq (sIf (tOr' (tNot' (eTest (eUn (isDY [] .tuple) (eVar 1)))) (eTest (eBin opNeF (eCa bLen (aCons (eVar 1) aNil)) (eVar 0)))) (sRet (eC (.bl false))) bNil) (sRet (eCa bAll (aCons (eL (lComp [3] (iTp (eVar 1)) (gNm 3) yesT (eCall 2 f_is_count_to (aCons (eVar 3) (aCons (eVar 2) aNil))))) aNil))))
def f_is_letter_to : List D → T D := runB 4 m_is_letter_to
theorem g_is_letter_to (F : Fun K "is_letter_to" "is_letter_to" s_is_letter_to a_f d_f) (W : Wd P w K mg base) (p_is_count_to : Pm P w K mg base "is_count_to" 3 2 ["value", "most"] f_is_count_to) : FnOk P w K mg base CX0 4 a_f d_f ["columns", "value", "most"] (spD K P w 3 f_is_letter_to) := by
  have nd := sc_is_letter_to.nd
  refine fn_ok (n := 4) (p := 3) (m := m_is_letter_to) (k := 3) F sc_is_letter_to rfl rfl rfl (fun cdv A outer s H E hr => ?_)
  exact (b_cons (ss_if (st_w (sw_or (st_not (st_val (s_isinstY [] (k := .tuple) W.kn W.z_isinstance W.z_tuple (by decide +kernel) (sv 1)))) (sw_or1 (st_cmp (os_neF hr.units) (s_callB cs_len W.z_len (by decide +kernel) (sa_cons (sv 1) sa_nil)) (sv 0) (nomark _))))) (b_one (ss_ret s_bl)) b_nil) (b_one (ss_ret (s_callB (cs_all rfl) W.z_all (by decide +kernel) (sa_cons (s_ofL (sl_comp [("power", 3)] rfl rfl nd (blkOk_by (N := ["columns", "value", "most", "power"]) (sc := defScope s_is_letter_to) (by decide +kernel)) (si_tup (sv 1)) (fun _ _ _ _ _ => (gw_name nd (by decide))) (fun _ _ _ _ _ => ts_nil) (fun _ _ _ _ _ => (s_callP p_is_count_to (hr.mono (by decide)) (sa_cons (sv 3) (sa_cons (sv 2) sa_nil)))))) sa_nil)))))
abbrev s_is_word_to : Stmt := topR 18
theorem sc_is_word_to : FnScope ["columns", "value", "most", "letter"] ["columns", "value", "most"] (defScope s_is_word_to) := ⟨rfl, rfl, rfl, by decide +kernel, rfl, by decide +kernel, by decide +kernel⟩
def m_is_word_to : Rho → T Out := (bSeq (sIf (tOr' (tNot' (eTest (eUn (isDY [] .tuple) (eVar 1)))) (eTest (eBin opGt (eCa bLen (aCons (eVar 1) aNil)) (eC (.int 8))))) (sRet (eC (.bl false))) bNil) (sRet (eCa bAll (aCons (eL (lComp [3] (iTp (eVar 1)) (gNm 3) yesT (eCall 3 f_is_letter_to (aCons (eVar 0) (aCons (eVar 3) (aCons (eVar 2) aNil)))))) aNil))))
def f_is_word_to : List D → T D := runB 4 m_is_word_to
theorem g_is_word_to (F : Fun K "is_word_to" "is_word_to" s_is_word_to a_f d_f) (W : Wd P w K mg base) (p_is_letter_to : Pm P w K mg base "is_letter_to" 4 3 ["columns", "value", "most"] f_is_letter_to) : FnOk P w K mg base CX0 5 a_f d_f ["columns", "value", "most"] (spD K P w 3 f_is_word_to) := by
  have nd := sc_is_word_to.nd
  refine fn_ok (n := 4) (p := 3) (m := m_is_word_to) (k := 4) F sc_is_word_to rfl rfl rfl (fun cdv A outer s H E hr => ?_)
  exact (b_cons (ss_if (st_w (sw_or (st_not (st_val (s_isinstY [] (k := .tuple) W.kn W.z_isinstance W.z_tuple (by decide +kernel) (sv 1)))) (sw_or1 (st_cmp os_gt (s_callB cs_len W.z_len (by decide +kernel) (sa_cons (sv 1) sa_nil)) (s_globI W.c_MOST_LETTERS) (nomark _))))) (b_one (ss_ret s_bl)) b_nil) (b_one (ss_ret (s_callB (cs_all rfl) W.z_all (by decide +kernel) (sa_cons (s_ofL (sl_comp [("letter", 3)] rfl rfl nd (blkOk_by (N := ["columns", "value", "most", "letter"]) (sc := defScope s_is_word_to) (by decide +kernel)) (si_tup (sv 1)) (fun _ _ _ _ _ => (gw_name nd (by decide))) (fun _ _ _ _ _ => ts_nil) (fun _ _ _ _ _ => (s_callP p_is_letter_to (hr.mono (by decide)) (sa_cons (sv 0) (sa_cons (sv 3) (sa_cons (sv 2) sa_nil))))))) sa_nil)))))
abbrev s_is_word : Stmt := topR 17
theorem sc_is_word : FnScope ["columns", "value"] ["columns", "value"] (defScope s_is_word) := ⟨rfl, rfl, rfl, by decide +kernel, rfl, by decide +kernel, by decide +kernel⟩
def m_is_word : Rho → T Out := (bSeq (sExpr (eCall 1 f_need_columns (aCons (eVar 0) aNil))) (sRet (eCall 3 f_is_word_to (aCons (eVar 0) (aCons (eVar 1) (aCons (eC (.int 8)) aNil))))))
def f_is_word : List D → T D := runB 2 m_is_word
theorem g_is_word (F : Fun K "is_word" "is_word" s_is_word a_f d_f) (W : Wd P w K mg base) (p_is_word_to : Pm P w K mg base "is_word_to" 5 3 ["columns", "value", "most"] f_is_word_to) (p_need_columns : Pm P w K mg base "need_columns" 4 1 ["columns"] f_need_columns) : FnOk P w K mg base CX0 6 a_f d_f ["columns", "value"] (spD K P w 2 f_is_word) := by
  have nd := sc_is_word.nd
  refine fn_ok (n := 2) (p := 2) (m := m_is_word) (k := 5) F sc_is_word rfl rfl rfl (fun cdv A outer s H E hr => ?_)
  exact (b_cons (ss_expr (s_callP p_need_columns (hr.mono (by decide)) (sa_cons (sv 0) sa_nil))) (b_one (ss_ret (s_callP p_is_word_to (hr.mono (by decide)) (sa_cons (sv 0) (sa_cons (sv 1) (sa_cons (s_globI W.c_MOST_POWER) sa_nil)))))))
abbrev s_need_word : Stmt := topR 19
theorem sc_need_word : FnScope ["columns", "word"] ["columns", "word"] (defScope s_need_word) := ⟨rfl, rfl, rfl, by decide +kernel, rfl, by decide +kernel, by decide +kernel⟩
def m_need_word : Rho → T Out := (sIf (tNot' (eTest (eCall 2 f_is_word (aCons (eVar 0) (aCons (eVar 1) aNil))))) sFail bNil)
def f_need_word : List D → T D := runB 2 m_need_word
theorem g_need_word (F : Fun K "need_word" "need_word" s_need_word a_f d_f) (W : Wd P w K mg base) (p_is_word : Pm P w K mg base "is_word" 6 2 ["columns", "value"] f_is_word) : FnOk P w K mg base CX0 7 a_f d_f ["columns", "word"] (spD K P w 2 f_need_word) := by
  have nd := sc_need_word.nd
  refine fn_ok (n := 2) (p := 2) (m := m_need_word) (k := 6) F sc_need_word rfl rfl rfl (fun cdv A outer s H E hr => ?_)
  exact (b_one (ss_if (st_not (st_val (s_callP p_is_word (hr.mono (by decide)) (sa_cons (sv 0) (sa_cons (sv 1) sa_nil))))) (b_one ss_fail) b_nil))
abbrev s_both_letters : Stmt := topR 20
theorem sc_both_letters : FnScope ["letter", "other", "power", "more"] ["letter", "other"] (defScope s_both_letters) := ⟨rfl, rfl, rfl, by decide +kernel, rfl, by decide +kernel, by decide +kernel⟩
def m_both_letters : Rho → T Out := (sRet (eCa bTuple (aCons (eL (lComp [2, 3] (iRg zipT (aCons (eVar 0) (aCons (eVar 1) aNil))) (gTp 2 (gsCons (gNm 2) (gsCons (gNm 3) gsNil))) yesT (eBin opAdd (eVar 2) (eVar 3)))) aNil)))
def f_both_letters : List D → T D := runB 4 m_both_letters
theorem g_both_letters (F : Fun K "both_letters" "both_letters" s_both_letters a_f d_f) (W : Wd P w K mg base)  : FnOk P w K mg base CX0 1 a_f d_f ["letter", "other"] (spD K P w 2 f_both_letters) := by
  have nd := sc_both_letters.nd
  refine fn_ok (n := 4) (p := 2) (m := m_both_letters) (k := 0) F sc_both_letters rfl rfl rfl (fun cdv A outer s H E hr => ?_)
  exact (b_one (ss_ret (s_callTy cs_tuple W.z_tuple (by decide +kernel) (sa_cons (s_ofL (sl_comp [("power", 2), ("more", 3)] rfl rfl nd (blkOk_by (N := ["letter", "other", "power", "more"]) (sc := defScope s_both_letters) (by decide +kernel)) (si_zipT W.z_zip (sa_cons (sv 0) (sa_cons (sv 1) sa_nil))) (fun _ _ _ _ _ => (gw_tup rfl (gsw_cons (gw_name nd (by decide)) (gsw_cons (gw_name nd (by decide)) gsw_nil)))) (fun _ _ _ _ _ => ts_nil) (fun _ _ _ _ _ => (s_bin os_add (sv 2) (sv 3))))) sa_nil))))
abbrev s_cuts : Stmt := topR 21
theorem sc_cuts : FnScope ["columns", "word", "at"] ["columns", "word"] (defScope s_cuts) := ⟨rfl, rfl, rfl, by decide +kernel, rfl, by decide +kernel, by decide +kernel⟩
def m_cuts : Rho → T Out := (bSeq (sExpr (eCall 2 f_need_word (aCons (eVar 0) (aCons (eVar 1) aNil)))) (sRet (eL (lComp [2] (iRg rng1 (aCons (eBin opAdd (eCa bLen (aCons (eVar 1) aNil)) (eC (.int 1))) aNil)) (gNm 2) yesT (eTup (aCons (eSl (eVar 1) oNo (oPart (eVar 2))) (aCons (eSl (eVar 1) (oPart (eVar 2)) oNo) aNil)))))))
def f_cuts : List D → T D := runB 3 m_cuts
theorem g_cuts (F : Fun K "cuts" "cuts" s_cuts a_f d_f) (W : Wd P w K mg base) (p_need_word : Pm P w K mg base "need_word" 7 2 ["columns", "word"] f_need_word) : FnOk P w K mg base CX0 8 a_f d_f ["columns", "word"] (spD K P w 2 f_cuts) := by
  have nd := sc_cuts.nd
  refine fn_ok (n := 3) (p := 2) (m := m_cuts) (k := 7) F sc_cuts rfl rfl rfl (fun cdv A outer s H E hr => ?_)
  exact (b_cons (ss_expr (s_callP p_need_word (hr.mono (by decide)) (sa_cons (sv 0) (sa_cons (sv 1) sa_nil)))) (b_one (ss_ret (s_ofL (sl_comp [("at", 2)] rfl rfl nd (blkOk_by (N := ["columns", "word", "at"]) (sc := defScope s_cuts) (by decide +kernel)) (si_range1 W.z_range (sa_cons (s_bin os_add (s_callB cs_len W.z_len (by decide +kernel) (sa_cons (sv 1) sa_nil)) s_int) sa_nil)) (fun _ _ _ _ _ => (gw_name nd (by decide))) (fun _ _ _ _ _ => ts_nil) (fun _ _ _ _ _ => (s_tup (sa_cons (s_sl (sv 1) so_no (so_some (sv 2))) (sa_cons (s_sl (sv 1) (so_some (sv 2)) so_no) sa_nil)))))))))
abbrev s_turned_word : Stmt := topR 22
theorem sc_turned_word : FnScope ["columns", "word"] ["columns", "word"] (defScope s_turned_word) := ⟨rfl, rfl, rfl, by decide +kernel, rfl, by decide +kernel, by decide +kernel⟩
def m_turned_word : Rho → T Out := (bSeq (sExpr (eCall 2 f_need_word (aCons (eVar 0) (aCons (eVar 1) aNil)))) (sRet (eRevT (eVar 1))))
def f_turned_word : List D → T D := runB 2 m_turned_word
theorem g_turned_word (F : Fun K "turned_word" "turned_word" s_turned_word a_f d_f) (W : Wd P w K mg base) (p_need_word : Pm P w K mg base "need_word" 7 2 ["columns", "word"] f_need_word) : FnOk P w K mg base CX0 8 a_f d_f ["columns", "word"] (spD K P w 2 f_turned_word) := by
  have nd := sc_turned_word.nd
  refine fn_ok (n := 2) (p := 2) (m := m_turned_word) (k := 7) F sc_turned_word rfl rfl rfl (fun cdv A outer s H E hr => ?_)
  exact (b_cons (ss_expr (s_callP p_need_word (hr.mono (by decide)) (sa_cons (sv 0) (sa_cons (sv 1) sa_nil)))) (b_one (ss_ret (s_revT (sv 1)))))
abbrev s__need_many : Stmt := topR 26
theorem sc__need_many : FnScope ["many"] ["many"] (defScope s__need_many) := ⟨rfl, rfl, rfl, by decide +kernel, rfl, by decide +kernel, by decide +kernel⟩
def m__need_many : Rho → T Out := (sIf (tNot' (eTest (eCall 2 f_is_count_to (aCons (eVar 0) (aCons (eC (.int 8)) aNil))))) sFail bNil)
def f__need_many : List D → T D := runB 1 m__need_many
theorem g__need_many (F : Fun K "_need_many" "_need_many" s__need_many a_f d_f) (W : Wd P w K mg base) (p_is_count_to : Pm P w K mg base "is_count_to" 3 2 ["value", "most"] f_is_count_to) : FnOk P w K mg base CX0 4 a_f d_f ["many"] (spD K P w 1 f__need_many) := by
  have nd := sc__need_many.nd
  refine fn_ok (n := 1) (p := 1) (m := m__need_many) (k := 3) F sc__need_many rfl rfl rfl (fun cdv A outer s H E hr => ?_)
  exact (b_one (ss_if (st_not (st_val (s_callP p_is_count_to (hr.mono (by decide)) (sa_cons (sv 0) (sa_cons (s_globI W.c_MOST_LETTERS) sa_nil))))) (b_one ss_fail) b_nil))
abbrev s_how_many : Stmt := topR 25
theorem sc_how_many : FnScope ["many", "other", "ways", "_", "further", "at"] ["many", "other"] (defScope s_how_many) := ⟨rfl, rfl, rfl, by decide +kernel, rfl, by decide +kernel, by decide +kernel⟩
def m_how_many : Rho → T Out := (bSeq (sExpr (eCall 1 f__need_many (aCons (eVar 0) aNil))) (bSeq (sExpr (eCall 1 f__need_many (aCons (eVar 1) aNil))) (bSeq (sOwn 2 (lComp [3] (iRg rng1 (aCons (eBin opAdd (eVar 1) (eC (.int 1))) aNil)) (gNm 3) yesT (eC (.int 1)))) (bFreeze 2 (bSeq (sFor (iRg rng1 (aCons (eVar 0) aNil)) (gNm 3) (bSeq (sOwn 4 (lLst (aCons (eC (.int 1)) aNil))) (bSeq (sFor (iRg rng1 (aCons (eVar 1) aNil)) (gNm 5) (sApp 4 (eBin opAdd (eBin opAdd (ixOwn 4 (eVar 5)) (eBin ixD (eVar 2) (eVar 5))) (eBin ixD (eVar 2) (eBin opAdd (eVar 5) (eC (.int 1))))))) (bFreeze 4 (sSet 2 (eVar 4)))))) (sRet (eBin ixD (eVar 2) (eUn uNeg (eC (.int 1))))))))))
def f_how_many : List D → T D := runB 6 m_how_many
theorem g_how_many (F : Fun K "how_many" "how_many" s_how_many a_f d_f) (W : Wd P w K mg base) (p__need_many : Pm P w K mg base "_need_many" 4 1 ["many"] f__need_many) : FnOk P w K mg base CX0 5 a_f d_f ["many", "other"] (spD K P w 2 f_how_many) := by
  have nd := sc_how_many.nd
  refine fn_ok (n := 6) (p := 2) (m := m_how_many) (k := 4) F sc_how_many rfl rfl rfl (fun cdv A outer s H E hr => ?_)
  exact (b_cons (ss_expr (s_callP p__need_many (hr.mono (by decide)) (sa_cons (sv 0) sa_nil))) (b_cons (ss_expr (s_callP p__need_many (hr.mono (by decide)) (sa_cons (sv 1) sa_nil))) (b_cons (ss_ownLc (i := 2) [("_", 3)] rfl rfl nd (blkOk_by (N := ["many", "other", "ways", "_", "further", "at"]) (sc := defScope s_how_many) (by decide +kernel)) (si_range1 W.z_range (sa_cons (s_bin os_add (sv 1) s_int) sa_nil)) (fun _ _ _ _ _ => (gw_name nd (by decide))) (fun _ _ _ _ _ => ts_nil) (fun _ _ _ _ _ => s_int) (sw_true rfl rfl rfl (by decide +kernel))) (b_freeze 2 (b_cons (ss_for PassesOwn.never rfl (si_range1 W.z_range (sa_cons (sv 0) sa_nil)) (g_name nd) (b_cons (ss_own nd (sl_lst (sa_cons s_int sa_nil))) (b_cons (ss_for PassesOwn.never rfl (si_range1 W.z_range (sa_cons (sv 1) sa_nil)) (g_name nd) (b_one (ss_app (s_bin os_add (s_bin os_add (s_ixOwn 4 (sv 5) (fun _ _ => rfl)) (s_ix (sv 2) (sv 5) (fun _ _ => rfl))) (s_ix (sv 2) (s_bin os_add (sv 5) s_int) (fun _ _ => rfl)))))) (b_freeze 4 (b_one (ss_set nd (sv 4))))))) (b_one (ss_ret (s_ix (sv 2) (s_neg s_int) (fun _ _ => rfl)))))))))
abbrev s__with_letter : Stmt := topR 30
theorem sc__with_letter : FnScope ["ways_and_letters", "found", "ways", "letter", "lacing", "many", "longer"] ["ways_and_letters"] (defScope s__with_letter) := ⟨rfl, rfl, rfl, by decide +kernel, rfl, by decide +kernel, by decide +kernel⟩
def m__with_letter : Rho → T Out := (bSeq (sOwnD 1) (bSeq (sFor (iLst (eVar 0)) (gTp 2 (gsCons (gNm 2) (gsCons (gNm 3) gsNil))) (sFor (iItems (eVar 2)) (gTp 2 (gsCons (gNm 4) (gsCons (gNm 5) gsNil))) (bSeq (sSet 6 (eBin opAdd (eVar 4) (eTup (aCons (eVar 3) aNil)))) (sPut 1 (eVar 6) (eBin opAdd (getOwn 1 (eVar 6) (eC (.int 0))) (eVar 5)))))) (bFreezeD 1 (sRet (eVar 1)))))
def f__with_letter : List D → T D := runB 7 m__with_letter
theorem g__with_letter (F : Fun K "_with_letter" "_with_letter" s__with_letter a_f d_f) (W : Wd P w K mg base)  : FnOk P w K mg base CX0 1 a_f d_f ["ways_and_letters"] (spD K P w 1 f__with_letter) := by
  have nd := sc__with_letter.nd
  refine fn_ok (n := 7) (p := 1) (m := m__with_letter) (k := 0) F sc__with_letter rfl rfl rfl (fun cdv A outer s H E hr => ?_)
  exact (b_cons (ss_ownD nd) (b_cons (ss_for PassesOwn.never rfl (si_list (sv 0)) (g_tup rfl (gs_cons (g_name nd) (gs_cons (g_name nd) gs_nil))) (b_one (ss_for PassesOwn.never rfl (si_items (sv 2)) (g_tup rfl (gs_cons (g_name nd) (gs_cons (g_name nd) gs_nil))) (b_cons (ss_set nd (s_bin os_add (sv 4) (s_tup (sa_cons (sv 3) sa_nil)))) (b_one (ss_put 1 hr.units (s_bin os_add (s_getOwn 1 hr.units (sv 6) s_int) (sv 5)) (sv 6))))))) (b_freezeD 1 (b_one (ss_ret (sv 1))))))
abbrev s__next_line : Stmt := topR 29
theorem sc__next_line : FnScope ["line", "letter", "other", "further", "at", "its", "both"] ["line", "letter", "other"] (defScope s__next_line) := ⟨rfl, rfl, rfl, by decide +kernel, rfl, by decide +kernel, by decide +kernel⟩
def m__next_line : Rho → T Out := (bSeq (sOwn 3 (lLst (aCons (eCall 1 f__with_letter (aCons (eL (lLst (aCons (eTup (aCons (eBin ixD (eVar 0) (eC (.int 0))) (aCons (eVar 1) aNil))) aNil))) aNil)) aNil))) (bSeq (sFor (iRg enumT (aCons (eVar 2) aNil)) (gTp 2 (gsCons (gNm 4) (gsCons (gNm 5) gsNil))) (bSeq (sSet 6 (eCall 2 f_both_letters (aCons (eVar 1) (aCons (eVar 5) aNil)))) (sApp 3 (eCall 1 f__with_letter (aCons (eL (lLst (aCons (eTup (aCons (eBin ixD (eVar 0) (eBin opAdd (eVar 4) (eC (.int 1)))) (aCons (eVar 1) aNil))) (aCons (eTup (aCons (ixOwn 3 (eVar 4)) (aCons (eVar 5) aNil))) (aCons (eTup (aCons (eBin ixD (eVar 0) (eVar 4)) (aCons (eVar 6) aNil))) aNil))))) aNil))))) (bFreeze 3 (sRet (eVar 3)))))
def f__next_line : List D → T D := runB 7 m__next_line
theorem g__next_line (F : Fun K "_next_line" "_next_line" s__next_line a_f d_f) (W : Wd P w K mg base) (p__with_letter : Pm P w K mg base "_with_letter" 1 1 ["ways_and_letters"] f__with_letter) (p_both_letters : Pm P w K mg base "both_letters" 1 2 ["letter", "other"] f_both_letters) : FnOk P w K mg base CX0 2 a_f d_f ["line", "letter", "other"] (spD K P w 3 f__next_line) := by
  have nd := sc__next_line.nd
  refine fn_ok (n := 7) (p := 3) (m := m__next_line) (k := 1) F sc__next_line rfl rfl rfl (fun cdv A outer s H E hr => ?_)
  exact (b_cons (ss_own nd (sl_lst (sa_cons (s_callP p__with_letter (hr.mono (by decide)) (sa_cons (s_ofL (sl_lst (sa_cons (s_tup (sa_cons (s_ix (sv 0) s_int (fun _ _ => rfl)) (sa_cons (sv 1) sa_nil))) sa_nil))) sa_nil)) sa_nil))) (b_cons (ss_for PassesOwn.never rfl (si_enumT W.z_enumerate (sa_cons (sv 2) sa_nil)) (g_tup rfl (gs_cons (g_name nd) (gs_cons (g_name nd) gs_nil))) (b_cons (ss_set nd (s_callP p_both_letters (hr.mono (by decide)) (sa_cons (sv 1) (sa_cons (sv 5) sa_nil)))) (b_one (ss_app (s_callP p__with_letter (hr.mono (by decide)) (sa_cons (s_ofL (sl_lst (sa_cons (s_tup (sa_cons (s_ix (sv 0) (s_bin os_add (sv 4) s_int) (fun _ _ => rfl)) (sa_cons (sv 1) sa_nil))) (sa_cons (s_tup (sa_cons (s_ixOwn 3 (sv 4) (fun _ _ => rfl)) (sa_cons (sv 5) sa_nil))) (sa_cons (s_tup (sa_cons (s_ix (sv 0) (sv 4) (fun _ _ => rfl)) (sa_cons (sv 6) sa_nil))) sa_nil))))) sa_nil)))))) (b_freeze 3 (b_one (ss_ret (sv 3))))))
abbrev s_laced : Stmt := topR 28
theorem sc_laced : FnScope ["word", "other", "line", "letter", "at"] ["word", "other"] (defScope s_laced) := ⟨rfl, rfl, rfl, by decide +kernel, rfl, by decide +kernel, by decide +kernel⟩
def m_laced : Rho → T Out := (bSeq (sOwn 2 (lComp [4] (iRg rng1 (aCons (eBin opAdd (eCa bLen (aCons (eVar 1) aNil)) (eC (.int 1))) aNil)) (gNm 4) yesT (eDict1 (eSl (eVar 1) oNo (oPart (eVar 4))) (eC (.int 1))))) (bFreeze 2 (bSeq (sFor (iTp (eVar 0)) (gNm 3) (sSet 2 (eCall 3 f__next_line (aCons (eVar 2) (aCons (eVar 3) (aCons (eVar 1) aNil)))))) (sRet (eBin ixD (eVar 2) (eUn uNeg (eC (.int 1))))))))
def f_laced : List D → T D := runB 5 m_laced
theorem g_laced (F : Fun K "laced" "laced" s_laced a_f d_f) (W : Wd P w K mg base) (p__next_line : Pm P w K mg base "_next_line" 2 3 ["line", "letter", "other"] f__next_line) : FnOk P w K mg base CX0 3 a_f d_f ["word", "other"] (spD K P w 2 f_laced) := by
  have nd := sc_laced.nd
  refine fn_ok (n := 5) (p := 2) (m := m_laced) (k := 2) F sc_laced rfl rfl rfl (fun cdv A outer s H E hr => ?_)
  exact (b_cons (ss_ownLc (i := 2) [("at", 4)] rfl rfl nd (blkOk_by (N := ["word", "other", "line", "letter", "at"]) (sc := defScope s_laced) (by decide +kernel)) (si_range1 W.z_range (sa_cons (s_bin os_add (s_callB cs_len W.z_len (by decide +kernel) (sa_cons (sv 1) sa_nil)) s_int) sa_nil)) (fun _ _ _ _ _ => (gw_name nd (by decide))) (fun _ _ _ _ _ => ts_nil) (fun _ _ _ _ _ => (s_dict1 hr.units (s_sl (sv 1) so_no (so_some (sv 4))) s_int)) (sw_true rfl rfl rfl (by decide +kernel))) (b_freeze 2 (b_cons (ss_for PassesOwn.never rfl (si_tup (sv 0)) (g_name nd) (b_one (ss_set nd (s_callP p__next_line (hr.mono (by decide)) (sa_cons (sv 2) (sa_cons (sv 3) (sa_cons (sv 1) sa_nil))))))) (b_one (ss_ret (s_ix (sv 2) (s_neg s_int) (fun _ _ => rfl)))))))
abbrev s_lacings : Stmt := topR 27
theorem sc_lacings : FnScope ["columns", "word", "other", "ways", "lacing"] ["columns", "word", "other"] (defScope s_lacings) := ⟨rfl, rfl, rfl, by decide +kernel, rfl, by decide +kernel, by decide +kernel⟩
def m_lacings : Rho → T (List D) := (bSeqL (sExpr (eCall 2 f_need_word (aCons (eVar 0) (aCons (eVar 1) aNil)))) (bSeqL (sExpr (eCall 2 f_need_word (aCons (eVar 0) (aCons (eVar 2) aNil)))) (bSeqL (sIf (eTest (eBin opGt (eCall 2 f_how_many (aCons (eCa bLen (aCons (eVar 1) aNil)) (aCons (eCa bLen (aCons (eVar 2) aNil)) aNil))) (eC (.int 400)))) sFail bNil) (bSeqL (sSet 3 (eCall 2 f_laced (aCons (eVar 1) (aCons (eVar 2) aNil)))) (lComp [4] (iLst (eL (lCa bSortedD (aCons (eVar 3) aNil)))) (gNm 4) yesT (eTup (aCons (eVar 4) (aCons (eBin dGet (eVar 3) (eVar 4)) aNil))))))))
def f_lacings : List D → T (List D) := runL 5 m_lacings
theorem g_lacings (F : Fun K "lacings" "lacings" s_lacings a_f d_f) (W : Wd P w K mg base) (p_how_many : Pm P w K mg base "how_many" 5 2 ["many", "other"] f_how_many) (p_laced : Pm P w K mg base "laced" 3 2 ["word", "other"] f_laced) (p_need_word : Pm P w K mg base "need_word" 7 2 ["columns", "word"] f_need_word) : FnOk P w K mg base CX0 8 a_f d_f ["columns", "word", "other"] (spR K P w 3 f_lacings) := by
  have nd := sc_lacings.nd
  refine fnL_ok (n := 5) (p := 3) (ml := m_lacings) (k := 7) F sc_lacings rfl rfl rfl (fun cdv A outer s H E hr => ?_)
  exact (bl_cons (ss_expr (s_callP p_need_word (hr.mono (by decide)) (sa_cons (sv 0) (sa_cons (sv 1) sa_nil)))) (bl_cons (ss_expr (s_callP p_need_word (hr.mono (by decide)) (sa_cons (sv 0) (sa_cons (sv 2) sa_nil)))) (bl_cons (ss_if (st_cmp os_gt (s_callP p_how_many (hr.mono (by decide)) (sa_cons (s_callB cs_len W.z_len (by decide +kernel) (sa_cons (sv 1) sa_nil)) (sa_cons (s_callB cs_len W.z_len (by decide +kernel) (sa_cons (sv 2) sa_nil)) sa_nil))) (s_globI W.c_MOST_LACINGS) (nomark _)) (b_one ss_fail) b_nil) (bl_cons (ss_set nd (s_callP p_laced (hr.mono (by decide)) (sa_cons (sv 1) (sa_cons (sv 2) sa_nil)))) (bl_ret (sl_comp [("lacing", 4)] rfl rfl nd (blkOk_by (N := ["columns", "word", "other", "ways", "lacing"]) (sc := defScope s_lacings) (by decide +kernel)) (si_list (s_ofL (sl_callB (cs_sortedD rfl hr.units) W.z_sorted (by decide +kernel) (sa_cons (sv 3) sa_nil)))) (fun _ _ _ _ _ => (gw_name nd (by decide))) (fun _ _ _ _ _ => ts_nil) (fun _ _ _ _ _ => (s_tup (sa_cons (sv 4) (sa_cons (s_dGet hr.units (sv 3) (sv 4) (fun _ _ => rfl)) sa_nil))))))))))
abbrev s__law_letter : Stmt := topR 34
theorem sc__law_letter : FnScope ["_law_pot_here", "_law_columns", "_law_most", "_law_powers", "_law_column"] ["_law_pot_here", "_law_columns", "_law_most"] (defScope s__law_letter) := ⟨rfl, rfl, rfl, by decide +kernel, rfl, by decide +kernel, by decide +kernel⟩
def m__law_letter : Rho → T Out := (bSeq (sOwn 3 (lLst aNil)) (bSeq (sFor (iRg rng1 (aCons (eVar 1) aNil)) (gNm 4) (sApp 3 (eCall 2 f__law_draw (aCons (eVar 0) (aCons (eBin opAdd (eVar 2) (eC (.int 1))) aNil))))) (bFreeze 3 (sRet (eCa bTuple (aCons (eVar 3) aNil))))))
def f__law_letter : List D → T D := runB 5 m__law_letter
theorem g__law_letter (F : Fun K "_law_letter" "_law_letter" s__law_letter a_f d_f) (W : Wd P w K mg base) (p__law_draw : Pm P w K mg base "_law_draw" 1 2 ["_law_pot_here", "_law_many"] f__law_draw) : FnOk P w K mg base CX0 2 a_f d_f ["_law_pot_here", "_law_columns", "_law_most"] (spD K P w 3 f__law_letter) := by
  have nd := sc__law_letter.nd
  refine fn_ok (n := 5) (p := 3) (m := m__law_letter) (k := 1) F sc__law_letter rfl rfl rfl (fun cdv A outer s H E hr => ?_)
  exact (b_cons (ss_own nd (sl_lst sa_nil)) (b_cons (ss_for PassesOwn.never rfl (si_range1 W.z_range (sa_cons (sv 1) sa_nil)) (g_name nd) (b_one (ss_app (s_callP p__law_draw (hr.mono (by decide)) (sa_cons (sv 0) (sa_cons (s_bin os_add (sv 2) s_int) sa_nil)))))) (b_freeze 3 (b_one (ss_ret (s_callTy cs_tuple W.z_tuple (by decide +kernel) (sa_cons (sv 3) sa_nil)))))))
abbrev s__law_word : Stmt := topR 35
theorem sc__law_word : FnScope ["_law_pot_here", "_law_columns", "_law_many", "_law_found", "_law_turn"] ["_law_pot_here", "_law_columns", "_law_many"] (defScope s__law_word) := ⟨rfl, rfl, rfl, by decide +kernel, rfl, by decide +kernel, by decide +kernel⟩
def m__law_word : Rho → T Out := (bSeq (sOwn 3 (lLst aNil)) (bSeq (sFor (iRg rng1 (aCons (eVar 2) aNil)) (gNm 4) (sApp 3 (eCall 3 f__law_letter (aCons (eVar 0) (aCons (eVar 1) (aCons (eC (.int 2)) aNil)))))) (bFreeze 3 (sRet (eCa bTuple (aCons (eVar 3) aNil))))))
def f__law_word : List D → T D := runB 5 m__law_word
theorem g__law_word (F : Fun K "_law_word" "_law_word" s__law_word a_f d_f) (W : Wd P w K mg base) (p__law_letter : Pm P w K mg base "_law_letter" 2 3 ["_law_pot_here", "_law_columns", "_law_most"] f__law_letter) : FnOk P w K mg base CX0 3 a_f d_f ["_law_pot_here", "_law_columns", "_law_many"] (spD K P w 3 f__law_word) := by
  have nd := sc__law_word.nd
  refine fn_ok (n := 5) (p := 3) (m := m__law_word) (k := 2) F sc__law_word rfl rfl rfl (fun cdv A outer s H E hr => ?_)
  exact (b_cons (ss_own nd (sl_lst sa_nil)) (b_cons (ss_for PassesOwn.never rfl (si_range1 W.z_range (sa_cons (sv 2) sa_nil)) (g_name nd) (b_one (ss_app (s_callP p__law_letter (hr.mono (by decide)) (sa_cons (sv 0) (sa_cons (sv 1) (sa_cons s_int sa_nil))))))) (b_freeze 3 (b_one (ss_ret (s_callTy cs_tuple W.z_tuple (by decide +kernel) (sa_cons (sv 3) sa_nil)))))))
abbrev s__law_choices : Stmt := topR 36
theorem sc__law_choices : FnScope ["_law_below", "_law_many", "_law_found", "_law_turn", "_law_longer", "_law_one", "_law_at_here"] ["_law_below", "_law_many"] (defScope s__law_choices) := ⟨rfl, rfl, rfl, by decide +kernel, rfl, by decide +kernel, by decide +kernel⟩
def m__law_choices : Rho → T Out := (bSeq (sOwn 2 (lLst (aCons (eL (lLst aNil)) aNil))) (bFreeze 2 (bSeq (sFor (iRg rng1 (aCons (eVar 1) aNil)) (gNm 3) (bSeq (sOwn 4 (lLst aNil)) (bSeq (sFor (iLst (eVar 2)) (gNm 5) (sExt 4 (lComp [6] (iRg rng2 (aCons (eIf (eTest (eBin opNeF (eVar 5) (eL (lLst aNil)))) (eBin opAdd (eBin ixD (eVar 5) (eUn uNeg (eC (.int 1)))) (eC (.int 1))) (eC (.int 0))) (aCons (eVar 0) aNil))) (gNm 6) yesT (eBin opAdd (eVar 5) (eL (lLst (aCons (eVar 6) aNil))))))) (bFreeze 4 (sSet 2 (eVar 4)))))) (sRet (eVar 2)))))
def f__law_choices : List D → T D := runB 7 m__law_choices
theorem g__law_choices (F : Fun K "_law_choices" "_law_choices" s__law_choices a_f d_f) (W : Wd P w K mg base)  : FnOk P w K mg base CX0 1 a_f d_f ["_law_below", "_law_many"] (spD K P w 2 f__law_choices) := by
  have nd := sc__law_choices.nd
  refine fn_ok (n := 7) (p := 2) (m := m__law_choices) (k := 0) F sc__law_choices rfl rfl rfl (fun cdv A outer s H E hr => ?_)
  exact (b_cons (ss_own nd (sl_lst (sa_cons (s_ofL (sl_lst sa_nil)) sa_nil))) (b_freeze 2 (b_cons (ss_for PassesOwn.never rfl (si_range1 W.z_range (sa_cons (sv 1) sa_nil)) (g_name nd) (b_cons (ss_own nd (sl_lst sa_nil)) (b_cons (ss_for PassesOwn.never rfl (si_list (sv 2)) (g_name nd) (b_one (ss_ext (sl_comp [("_law_at_here", 6)] rfl rfl nd (blkOk_by (N := ["_law_below", "_law_many", "_law_found", "_law_turn", "_law_longer", "_law_one", "_law_at_here"]) (sc := defScope s__law_choices) (by decide +kernel)) (si_range2 W.z_range (sa_cons (s_if (st_cmp (os_neF hr.units) (sv 5) (s_ofL (sl_lst sa_nil)) (nomark _)) (s_bin os_add (s_ix (sv 5) (s_neg s_int) (fun _ _ => rfl)) s_int) s_int) (sa_cons (sv 0) sa_nil))) (fun _ _ _ _ _ => (gw_name nd (by decide))) (fun _ _ _ _ _ => ts_nil) (fun _ _ _ _ _ => (s_bin os_add (sv 5) (s_ofL (sl_lst (sa_cons (sv 6) sa_nil))))))))) (b_freeze 4 (b_one (ss_set nd (sv 4))))))) (b_one (ss_ret (sv 2))))))
abbrev s__law_at : Stmt := topR 38
theorem sc__law_at : FnScope ["_law_one", "_law_near", "_law_far", "_law_other", "_law_at_here", "_law_a", "_law_b"] ["_law_one", "_law_near", "_law_far", "_law_other", "_law_at_here"] (defScope s__law_at) := ⟨rfl, rfl, rfl, by decide +kernel, rfl, by decide +kernel, by decide +kernel⟩
def m__law_at : Rho → T Out := (bSeq (sIf (eTest (eBin opNotIn (eVar 4) (eVar 2))) (sRet (eBin ixD (eVar 0) (eIdx (eVar 1) (eVar 4)))) bNil) (bSeq (sIf (eTest (eBin opNotIn (eVar 4) (eVar 1))) (sRet (eBin ixD (eVar 3) (eIdx (eVar 2) (eVar 4)))) bNil) (sRet (eCa bTuple (aCons (eL (lComp [5, 6] (iRg zipT (aCons (eBin ixD (eVar 0) (eIdx (eVar 1) (eVar 4))) (aCons (eBin ixD (eVar 3) (eIdx (eVar 2) (eVar 4))) aNil))) (gTp 2 (gsCons (gNm 5) (gsCons (gNm 6) gsNil))) yesT (eBin opAdd (eVar 5) (eVar 6)))) aNil)))))
def f__law_at : List D → T D := runB 7 m__law_at
theorem g__law_at (F : Fun K "_law_at" "_law_at" s__law_at a_f d_f) (W : Wd P w K mg base)  : FnOk P w K mg base CX0 1 a_f d_f ["_law_one", "_law_near", "_law_far", "_law_other", "_law_at_here"] (spD K P w 5 f__law_at) := by
  have nd := sc__law_at.nd
  refine fn_ok (n := 7) (p := 5) (m := m__law_at) (k := 0) F sc__law_at rfl rfl rfl (fun cdv A outer s H E hr => ?_)
  exact (b_cons (ss_if (st_cmp os_notIn (sv 4) (sv 2) (by rfl)) (b_one (ss_ret (s_ix (sv 0) (s_idx (sv 1) (sv 4)) (fun _ _ => rfl)))) b_nil) (b_cons (ss_if (st_cmp os_notIn (sv 4) (sv 1) (by rfl)) (b_one (ss_ret (s_ix (sv 3) (s_idx (sv 2) (sv 4)) (fun _ _ => rfl)))) b_nil) (b_one (ss_ret (s_callTy cs_tuple W.z_tuple (by decide +kernel) (sa_cons (s_ofL (sl_comp [("_law_a", 5), ("_law_b", 6)] rfl rfl nd (blkOk_by (N := ["_law_one", "_law_near", "_law_far", "_law_other", "_law_at_here", "_law_a", "_law_b"]) (sc := defScope s__law_at) (by decide +kernel)) (si_zipT W.z_zip (sa_cons (s_ix (sv 0) (s_idx (sv 1) (sv 4)) (fun _ _ => rfl)) (sa_cons (s_ix (sv 3) (s_idx (sv 2) (sv 4)) (fun _ _ => rfl)) sa_nil))) (fun _ _ _ _ _ => (gw_tup rfl (gsw_cons (gw_name nd (by decide)) (gsw_cons (gw_name nd (by decide)) gsw_nil)))) (fun _ _ _ _ _ => ts_nil) (fun _ _ _ _ _ => (s_bin os_add (sv 5) (sv 6))))) sa_nil))))))
abbrev s__law_laced : Stmt := topR 37
theorem sc__law_laced : FnScope ["_law_one", "_law_other", "_law_found", "_law_many", "_law_near", "_law_far", "_law_word_here", "_law_at_here"] ["_law_one", "_law_other"] (defScope s__law_laced) := ⟨rfl, rfl, rfl, by decide +kernel, rfl, by decide +kernel, by decide +kernel⟩
def m__law_laced : Rho → T Out := (bSeq (sOwnD 2) (bSeq (sFor (iRg rng2 (aCons (eCa bMax2 (aCons (eCa bLen (aCons (eVar 0) aNil)) (aCons (eCa bLen (aCons (eVar 1) aNil)) aNil))) (aCons (eBin opAdd (eBin opAdd (eCa bLen (aCons (eVar 0) aNil)) (eCa bLen (aCons (eVar 1) aNil))) (eC (.int 1))) aNil))) (gNm 3) (sFor (iLst (eCall 2 f__law_choices (aCons (eVar 3) (aCons (eCa bLen (aCons (eVar 0) aNil)) aNil)))) (gNm 4) (sFor (iLst (eCall 2 f__law_choices (aCons (eVar 3) (aCons (eCa bLen (aCons (eVar 1) aNil)) aNil)))) (gNm 5) (sIf (eTest (eCa bAll (aCons (eL (lComp [7] (iRg rng1 (aCons (eVar 3) aNil)) (gNm 7) yesT (eOr (eBin opIn (eVar 7) (eVar 4)) (eBin opIn (eVar 7) (eVar 5))))) aNil))) (bSeq (sSet 6 (eCa bTuple (aCons (eL (lComp [7] (iRg rng1 (aCons (eVar 3) aNil)) (gNm 7) yesT (eCall 5 f__law_at (aCons (eVar 0) (aCons (eVar 4) (aCons (eVar 5) (aCons (eVar 1) (aCons (eVar 7) aNil)))))))) aNil))) (sPut 2 (eVar 6) (eBin opAdd (getOwn 2 (eVar 6) (eC (.int 0))) (eC (.int 1))))) bNil)))) (bFreezeD 2 (sRet (eVar 2)))))
def f__law_laced : List D → T D := runB 8 m__law_laced
theorem g__law_laced (F : Fun K "_law_laced" "_law_laced" s__law_laced a_f d_f) (W : Wd P w K mg base) (p__law_at : Pm P w K mg base "_law_at" 1 5 ["_law_one", "_law_near", "_law_far", "_law_other", "_law_at_here"] f__law_at) (p__law_choices : Pm P w K mg base "_law_choices" 1 2 ["_law_below", "_law_many"] f__law_choices) : FnOk P w K mg base CX0 2 a_f d_f ["_law_one", "_law_other"] (spD K P w 2 f__law_laced) := by
  have nd := sc__law_laced.nd
  refine fn_ok (n := 8) (p := 2) (m := m__law_laced) (k := 1) F sc__law_laced rfl rfl rfl (fun cdv A outer s H E hr => ?_)
  exact (b_cons (ss_ownD nd) (b_cons (ss_for PassesOwn.never rfl (si_range2 W.z_range (sa_cons (s_callB (cs_max2 rfl) W.z_max (by decide +kernel) (sa_cons (s_callB cs_len W.z_len (by decide +kernel) (sa_cons (sv 0) sa_nil)) (sa_cons (s_callB cs_len W.z_len (by decide +kernel) (sa_cons (sv 1) sa_nil)) sa_nil))) (sa_cons (s_bin os_add (s_bin os_add (s_callB cs_len W.z_len (by decide +kernel) (sa_cons (sv 0) sa_nil)) (s_callB cs_len W.z_len (by decide +kernel) (sa_cons (sv 1) sa_nil))) s_int) sa_nil))) (g_name nd) (b_one (ss_for PassesOwn.never rfl (si_list (s_callP p__law_choices (hr.mono (by decide)) (sa_cons (sv 3) (sa_cons (s_callB cs_len W.z_len (by decide +kernel) (sa_cons (sv 0) sa_nil)) sa_nil)))) (g_name nd) (b_one (ss_for PassesOwn.never rfl (si_list (s_callP p__law_choices (hr.mono (by decide)) (sa_cons (sv 3) (sa_cons (s_callB cs_len W.z_len (by decide +kernel) (sa_cons (sv 1) sa_nil)) sa_nil)))) (g_name nd) (b_one (ss_if (st_val (s_callB (cs_all rfl) W.z_all (by decide +kernel) (sa_cons (s_ofL (sl_comp [("_law_at_here", 7)] rfl rfl nd (blkOk_by (N := ["_law_one", "_law_other", "_law_found", "_law_many", "_law_near", "_law_far", "_law_word_here", "_law_at_here"]) (sc := defScope s__law_laced) (by decide +kernel)) (si_range1 W.z_range (sa_cons (sv 3) sa_nil)) (fun _ _ _ _ _ => (gw_name nd (by decide))) (fun _ _ _ _ _ => ts_nil) (fun _ _ _ _ _ => (s_or (s_cmp os_in (sv 7) (sv 4) (by rfl)) (s_one (s_cmp os_in (sv 7) (sv 5) (by rfl))))))) sa_nil))) (b_cons (ss_set nd (s_callTy cs_tuple W.z_tuple (by decide +kernel) (sa_cons (s_ofL (sl_comp [("_law_at_here", 7)] rfl rfl nd (blkOk_by (N := ["_law_one", "_law_other", "_law_found", "_law_many", "_law_near", "_law_far", "_law_word_here", "_law_at_here"]) (sc := defScope s__law_laced) (by decide +kernel)) (si_range1 W.z_range (sa_cons (sv 3) sa_nil)) (fun _ _ _ _ _ => (gw_name nd (by decide))) (fun _ _ _ _ _ => ts_nil) (fun _ _ _ _ _ => (s_callP p__law_at (hr.mono (by decide)) (sa_cons (sv 0) (sa_cons (sv 4) (sa_cons (sv 5) (sa_cons (sv 1) (sa_cons (sv 7) sa_nil))))))))) sa_nil))) (b_one (ss_put 2 hr.units (s_bin os_add (s_getOwn 2 hr.units (sv 6) s_int) s_int) (sv 6)))) b_nil))))))) (b_freezeD 2 (b_one (ss_ret (sv 2))))))
abbrev s__law_further : Stmt := topR 40
theorem sc__law_further : FnScope ["_law_columns", "_law_some", "_law_word_here", "_law_is_own", "_law_found", "_law_one", "_law_often", "_law_told", "_law_more"] ["_law_columns", "_law_some", "_law_word_here", "_law_is_own"] (defScope s__law_further) := ⟨rfl, rfl, rfl, by decide +kernel, rfl, by decide +kernel, by decide +kernel⟩
def m__law_further : Rho → T Out := (bSeq (sOwnD 4) (bSeq (sFor (iLst (eVar 1)) (gTp 2 (gsCons (gNm 5) (gsCons (gNm 6) gsNil))) (sFor (iLst (eIf (eTest (eVar 3)) (eL (iItems (eCall 2 f__law_laced (aCons (eVar 5) (aCons (eVar 2) aNil))))) (eL (lCallF 3 f_lacings (aCons (eVar 0) (aCons (eVar 5) (aCons (eVar 2) aNil))))))) (gTp 2 (gsCons (gNm 7) (gsCons (gNm 8) gsNil))) (sPutC 4 (eVar 7) (eBin opMulT (eVar 6) (eVar 8))))) (bFreezeD 4 (sRet (eVar 4)))))
def f__law_further : List D → T D := runB 9 m__law_further
theorem g__law_further (F : Fun K "_law_further" "_law_further" s__law_further a_f d_f) (W : Wd P w K mg base) (p__law_laced : Pm P w K mg base "_law_laced" 2 2 ["_law_one", "_law_other"] f__law_laced) (p__law_put : PmPut P w K mg base "_law_put" 1 ["_law_found", "_law_key", "_law_often"]) (p_lacings : PmR P w K mg base "lacings" 8 3 ["columns", "word", "other"] f_lacings) : FnOk P w K mg base CX0 9 a_f d_f ["_law_columns", "_law_some", "_law_word_here", "_law_is_own"] (spD K P w 4 f__law_further) := by
  have nd := sc__law_further.nd
  refine fn_ok (n := 9) (p := 4) (m := m__law_further) (k := 8) F sc__law_further rfl rfl rfl (fun cdv A outer s H E hr => ?_)
  exact (b_cons (ss_ownD nd) (b_cons (ss_for PassesOwn.never rfl (si_list (sv 1)) (g_tup rfl (gs_cons (g_name nd) (gs_cons (g_name nd) gs_nil))) (b_one (ss_for PassesOwn.never rfl (si_list (s_if (st_val (sv 3)) (s_ofL (sl_listIt rfl W.z_list (s_callP p__law_laced (hr.mono (by decide)) (sa_cons (sv 5) (sa_cons (sv 2) sa_nil))))) (s_ofL (sl_callPR p_lacings (hr.mono (by decide)) (sa_cons (sv 0) (sa_cons (sv 5) (sa_cons (sv 2) sa_nil))))))) (g_tup rfl (gs_cons (g_name nd) (gs_cons (g_name nd) gs_nil))) (b_one (ss_putC 4 p__law_put (hr.mono (by decide)) (sv 7) (s_bin os_mulT (sv 6) (sv 8))))))) (b_freezeD 4 (b_one (ss_ret (sv 4))))))
abbrev s__law_right : Stmt := topR 41
theorem sc__law_right : FnScope ["_law_pot_here", "_law_columns", "_law_third", "_law_due", "_law_turned", "_law_one", "_law_other", "_law_both", "_law_behind", "_law_near", "_law_far", "_law_left", "_law_right_here", "_law_word_here", "_law_often", "_law_cut", "_law_ahead", "_law_back", "_law_first", "_law_last", "_law_rest", "_law_more"] ["_law_pot_here"] (defScope s__law_right) := ⟨rfl, rfl, rfl, by decide +kernel, rfl, by decide +kernel, by decide +kernel⟩
def m__law_right : Rho → T Out := (bSeq (sSet 1 (eCall 2 f__law_draw (aCons (eVar 0) (aCons (eC (.int 3)) aNil)))) (bSeq (sPar 5 6 (eCall 3 f__law_word (aCons (eVar 0) (aCons (eVar 1) (aCons (eCall 2 f__law_draw (aCons (eVar 0) (aCons (eC (.int 3)) aNil))) aNil)))) (eCall 3 f__law_word (aCons (eVar 0) (aCons (eVar 1) (aCons (eCall 2 f__law_draw (aCons (eVar 0) (aCons (eC (.int 3)) aNil))) aNil))))) (bSeq (sSet 2 (eCall 3 f__law_word (aCons (eVar 0) (aCons (eVar 1) (aCons (eIf (eTest (eBin opLt (eBin opAdd (eCa bLen (aCons (eVar 5) aNil)) (eCa bLen (aCons (eVar 6) aNil))) (eC (.int 4)))) (eCall 2 f__law_draw (aCons (eVar 0) (aCons (eC (.int 3)) aNil))) (eC (.int 1))) aNil))))) (bSeq (sPar 7 8 (eL (lCallF 3 f_lacings (aCons (eVar 1) (aCons (eVar 5) (aCons (eVar 6) aNil))))) (eL (lCallF 3 f_lacings (aCons (eVar 1) (aCons (eVar 6) (aCons (eVar 2) aNil)))))) (bSeq (sPar 9 10 (eCall 4 f__law_further (aCons (eVar 1) (aCons (eVar 7) (aCons (eVar 2) (aCons (eC (.bl false)) aNil))))) (eCall 4 f__law_further (aCons (eVar 1) (aCons (eVar 8) (aCons (eVar 5) (aCons (eC (.bl false)) aNil)))))) (bSeq (sSet 3 (eCall 4 f__law_further (aCons (eVar 1) (aCons (eL (lCa bSorted (aCons (eL (iItems (eCall 2 f__law_laced (aCons (eVar 5) (aCons (eVar 6) aNil))))) aNil))) (aCons (eVar 2) (aCons (eC (.bl true)) aNil)))))) (bSeq (sIf (tOr' (eTest (eBin opNeD (eVar 9) (eVar 3))) (eTest (eBin opNeD (eVar 10) (eVar 3)))) (sRet (eC (.bl false))) bNil) (bSeq (sParDD 11 12) (bSeq (sFor (iLst (eVar 7)) (gTp 2 (gsCons (gNm 13) (gsCons (gNm 14) gsNil))) (sFor (iLst (eCall 2 f_cuts (aCons (eVar 1) (aCons (eVar 13) aNil)))) (gNm 15) (sPutC 11 (eVar 15) (eVar 14)))) (bSeq (sFor (iLst (eCall 2 f_cuts (aCons (eVar 1) (aCons (eVar 5) aNil)))) (gTp 2 (gsCons (gNm 16) (gsCons (gNm 17) gsNil))) (sFor (iLst (eCall 2 f_cuts (aCons (eVar 1) (aCons (eVar 6) aNil)))) (gTp 2 (gsCons (gNm 18) (gsCons (gNm 19) gsNil))) (sFor (iLst (eL (lCallF 3 f_lacings (aCons (eVar 1) (aCons (eVar 16) (aCons (eVar 18) aNil)))))) (gTp 2 (gsCons (gNm 13) (gsCons (gNm 14) gsNil))) (sFor (iLst (eL (lCallF 3 f_lacings (aCons (eVar 1) (aCons (eVar 17) (aCons (eVar 19) aNil)))))) (gTp 2 (gsCons (gNm 20) (gsCons (gNm 21) gsNil))) (sPutC 12 (eTup (aCons (eVar 13) (aCons (eVar 20) aNil))) (eBin opMulT (eVar 14) (eVar 21))))))) (bFreezeD 12 (bFreezeD 11 (bSeq (sIf (eTest (eBin opNeD (eVar 11) (eVar 12))) (sRet (eC (.bl false))) bNil) (bSeq (sOwn 4 (lCa bSorted (aCons (eL (lComp [13, 14] (iLst (eVar 7)) (gTp 2 (gsCons (gNm 13) (gsCons (gNm 14) gsNil))) yesT (eTup (aCons (eRevT (eVar 13)) (aCons (eVar 14) aNil))))) aNil))) (bSeq (sIf (eTest (eBin opNeD (eCall 2 f_turned_word (aCons (eVar 1) (aCons (eVar 5) aNil))) (eRevT (eVar 5)))) (sRet (eC (.bl false))) bNil) (bFreeze 4 (bSeq (sIf (eTest (eBin opNeD (eL (lCallF 3 f_lacings (aCons (eVar 1) (aCons (eRevT (eVar 5)) (aCons (eCallK 2 [1, 0] f_turned_word (aCons (eVar 6) (aCons (eVar 1) aNil))) aNil))))) (eVar 4))) (sRet (eC (.bl false))) bNil) (sRet (eAnd (eBin opEqF (eL (lCallF 3 f_lacings (aCons (eVar 1) (aCons (eVar 5) (aCons (eTup aNil) aNil))))) (eL (lLst (aCons (eTup (aCons (eVar 5) (aCons (eC (.int 1)) aNil))) aNil)))) (eBin opEqF (eL (lCallKF 3 [2, 1, 0] f_lacings (aCons (eVar 5) (aCons (eTup aNil) (aCons (eVar 1) aNil))))) (eL (lLst (aCons (eTup (aCons (eVar 5) (aCons (eC (.int 1)) aNil))) aNil)))))))))))))))))))))))
def f__law_right : List D → T D := runB 22 m__law_right
theorem g__law_right (F : Fun K "_law_right" "_law_right" s__law_right a_f d_f) (W : Wd P w K mg base) (p__law_draw : Pm P w K mg base "_law_draw" 1 2 ["_law_pot_here", "_law_many"] f__law_draw) (p__law_further : Pm P w K mg base "_law_further" 9 4 ["_law_columns", "_law_some", "_law_word_here", "_law_is_own"] f__law_further) (p__law_laced : Pm P w K mg base "_law_laced" 2 2 ["_law_one", "_law_other"] f__law_laced) (p__law_put : PmPut P w K mg base "_law_put" 1 ["_law_found", "_law_key", "_law_often"]) (p__law_word : Pm P w K mg base "_law_word" 3 3 ["_law_pot_here", "_law_columns", "_law_many"] f__law_word) (p_cuts : Pm P w K mg base "cuts" 8 2 ["columns", "word"] f_cuts) (p_lacings : PmR P w K mg base "lacings" 8 3 ["columns", "word", "other"] f_lacings) (pk_lacings : PmRK P w K mg base "lacings" 8 3 ["columns", "word", "other"] ["other", "word", "columns"] [2, 1, 0] f_lacings) (p_turned_word : Pm P w K mg base "turned_word" 8 2 ["columns", "word"] f_turned_word) (pk_turned_word : PmK P w K mg base "turned_word" 8 2 ["columns", "word"] ["word", "columns"] [1, 0] f_turned_word) : FnOk P w K mg base CX0 10 a_f d_f ["_law_pot_here"] (spD K P w 1 f__law_right) := by
  have nd := sc__law_right.nd
  refine fn_ok (n := 22) (p := 1) (m := m__law_right) (k := 9) F sc__law_right rfl rfl rfl (fun cdv A outer s H E hr => ?_)
  exact (b_cons (ss_set nd (s_callP p__law_draw (hr.mono (by decide)) (sa_cons (sv 0) (sa_cons s_int sa_nil)))) (b_cons (ss_par rfl nd (s_callP p__law_word (hr.mono (by decide)) (sa_cons (sv 0) (sa_cons (sv 1) (sa_cons (s_callP p__law_draw (hr.mono (by decide)) (sa_cons (sv 0) (sa_cons s_int sa_nil))) sa_nil)))) (s_callP p__law_word (hr.mono (by decide)) (sa_cons (sv 0) (sa_cons (sv 1) (sa_cons (s_callP p__law_draw (hr.mono (by decide)) (sa_cons (sv 0) (sa_cons s_int sa_nil))) sa_nil))))) (b_cons (ss_set nd (s_callP p__law_word (hr.mono (by decide)) (sa_cons (sv 0) (sa_cons (sv 1) (sa_cons (s_if (st_cmp os_lt (s_bin os_add (s_callB cs_len W.z_len (by decide +kernel) (sa_cons (sv 5) sa_nil)) (s_callB cs_len W.z_len (by decide +kernel) (sa_cons (sv 6) sa_nil))) s_int (nomark _)) (s_callP p__law_draw (hr.mono (by decide)) (sa_cons (sv 0) (sa_cons s_int sa_nil))) s_int) sa_nil))))) (b_cons (ss_par rfl nd (s_ofL (sl_callPR p_lacings (hr.mono (by decide)) (sa_cons (sv 1) (sa_cons (sv 5) (sa_cons (sv 6) sa_nil))))) (s_ofL (sl_callPR p_lacings (hr.mono (by decide)) (sa_cons (sv 1) (sa_cons (sv 6) (sa_cons (sv 2) sa_nil)))))) (b_cons (ss_par rfl nd (s_callP p__law_further (hr.mono (by decide)) (sa_cons (sv 1) (sa_cons (sv 7) (sa_cons (sv 2) (sa_cons s_bl sa_nil))))) (s_callP p__law_further (hr.mono (by decide)) (sa_cons (sv 1) (sa_cons (sv 8) (sa_cons (sv 5) (sa_cons s_bl sa_nil)))))) (b_cons (ss_set nd (s_callP p__law_further (hr.mono (by decide)) (sa_cons (sv 1) (sa_cons (s_ofL (sl_callB (cs_sorted hr.units) W.z_sorted (by decide +kernel) (sa_cons (s_ofL (sl_listIt rfl W.z_list (s_callP p__law_laced (hr.mono (by decide)) (sa_cons (sv 5) (sa_cons (sv 6) sa_nil))))) sa_nil))) (sa_cons (sv 2) (sa_cons s_bl sa_nil)))))) (b_cons (ss_if (st_w (sw_or (st_cmp (os_neD hr.units) (sv 9) (sv 3) (nomark _)) (sw_or1 (st_cmp (os_neD hr.units) (sv 10) (sv 3) (nomark _))))) (b_one (ss_ret s_bl)) b_nil) (b_cons (ss_parDD rfl nd) (b_cons (ss_for PassesOwn.never rfl (si_list (sv 7)) (g_tup rfl (gs_cons (g_name nd) (gs_cons (g_name nd) gs_nil))) (b_one (ss_for PassesOwn.never rfl (si_list (s_callP p_cuts (hr.mono (by decide)) (sa_cons (sv 1) (sa_cons (sv 13) sa_nil)))) (g_name nd) (b_one (ss_putC 11 p__law_put (hr.mono (by decide)) (sv 15) (sv 14)))))) (b_cons (ss_for PassesOwn.never rfl (si_list (s_callP p_cuts (hr.mono (by decide)) (sa_cons (sv 1) (sa_cons (sv 5) sa_nil)))) (g_tup rfl (gs_cons (g_name nd) (gs_cons (g_name nd) gs_nil))) (b_one (ss_for PassesOwn.never rfl (si_list (s_callP p_cuts (hr.mono (by decide)) (sa_cons (sv 1) (sa_cons (sv 6) sa_nil)))) (g_tup rfl (gs_cons (g_name nd) (gs_cons (g_name nd) gs_nil))) (b_one (ss_for PassesOwn.never rfl (si_list (s_ofL (sl_callPR p_lacings (hr.mono (by decide)) (sa_cons (sv 1) (sa_cons (sv 16) (sa_cons (sv 18) sa_nil)))))) (g_tup rfl (gs_cons (g_name nd) (gs_cons (g_name nd) gs_nil))) (b_one (ss_for PassesOwn.never rfl (si_list (s_ofL (sl_callPR p_lacings (hr.mono (by decide)) (sa_cons (sv 1) (sa_cons (sv 17) (sa_cons (sv 19) sa_nil)))))) (g_tup rfl (gs_cons (g_name nd) (gs_cons (g_name nd) gs_nil))) (b_one (ss_putC 12 p__law_put (hr.mono (by decide)) (s_tup (sa_cons (sv 13) (sa_cons (sv 20) sa_nil))) (s_bin os_mulT (sv 14) (sv 21))))))))))) (b_freezeD 12 (b_freezeD 11 (b_cons (ss_if (st_cmp (os_neD hr.units) (sv 11) (sv 12) (nomark _)) (b_one (ss_ret s_bl)) b_nil) (b_cons (ss_own nd (sl_callB (cs_sorted hr.units) W.z_sorted (by decide +kernel) (sa_cons (s_ofL (sl_comp [("_law_word_here", 13), ("_law_often", 14)] rfl rfl nd (blkOk_by (N := ["_law_pot_here", "_law_columns", "_law_third", "_law_due", "_law_turned", "_law_one", "_law_other", "_law_both", "_law_behind", "_law_near", "_law_far", "_law_left", "_law_right_here", "_law_word_here", "_law_often", "_law_cut", "_law_ahead", "_law_back", "_law_first", "_law_last", "_law_rest", "_law_more"]) (sc := defScope s__law_right) (by decide +kernel)) (si_list (sv 7)) (fun _ _ _ _ _ => (gw_tup rfl (gsw_cons (gw_name nd (by decide)) (gsw_cons (gw_name nd (by decide)) gsw_nil)))) (fun _ _ _ _ _ => ts_nil) (fun _ _ _ _ _ => (s_tup (sa_cons (s_revT (sv 13)) (sa_cons (sv 14) sa_nil)))))) sa_nil))) (b_cons (ss_if (st_cmp (os_neD hr.units) (s_callP p_turned_word (hr.mono (by decide)) (sa_cons (sv 1) (sa_cons (sv 5) sa_nil))) (s_revT (sv 5)) (nomark _)) (b_one (ss_ret s_bl)) b_nil) (b_freeze 4 (b_cons (ss_if (st_cmp (os_neD hr.units) (s_ofL (sl_callPR p_lacings (hr.mono (by decide)) (sa_cons (sv 1) (sa_cons (s_revT (sv 5)) (sa_cons (s_callPK pk_turned_word (hr.mono (by decide)) rfl rfl (sk_cons (sv 6) (sk_cons (sv 1) sk_nil))) sa_nil))))) (sv 4) (nomark _)) (b_one (ss_ret s_bl)) b_nil) (b_one (ss_ret (s_and (s_cmp (os_eqF hr.units) (s_ofL (sl_callPR p_lacings (hr.mono (by decide)) (sa_cons (sv 1) (sa_cons (sv 5) (sa_cons (s_tup sa_nil) sa_nil))))) (s_ofL (sl_lst (sa_cons (s_tup (sa_cons (sv 5) (sa_cons s_int sa_nil))) sa_nil))) (nomark _)) (s_one (s_cmp (os_eqF hr.units) (s_ofL (sl_callPRK pk_lacings (hr.mono (by decide)) rfl rfl (sk_cons (sv 5) (sk_cons (s_tup sa_nil) (sk_cons (sv 1) sk_nil))))) (s_ofL (sl_lst (sa_cons (s_tup (sa_cons (sv 5) (sa_cons s_int sa_nil))) sa_nil))) (nomark _)))))))))))))))))))))))
end
end Pd

namespace Pd
open PySem L2 PySem.Spec PyProof.Rows
theorem isInt_int (i : Int) : f_is_integer [.int i] = .ret (.bl true) := rfl

/-! The law's own pairs; the program's worth of a letter: a product of rationals. -/
def gcTest : Rho → T Bool := eTest (eBin opNeF (eVar 1) (eC (.int 0)))
def gcStep : Rho → T Out := sPar 0 1 (eVar 1) (eBin opModG (eCa bInt (aCons (eVar 0) aNil)) (eVar 1))
theorem gc_test (x y : Int) : gcTest [.val (.int x), .val (.int y)] = .ret (!decide (y = 0)) := rfl
theorem gc_step {x y : Int} (h : 0 < y) : gcStep [.val (.int x), .val (.int y)] = .ret (.nx [.val (.int y), .val (.int (x % y))]) := by
  have e : opModG (.int x) (.int y) = .ret (.int (x % y)) := by
    unfold opModG
    dsimp only
    rw [decide_eq_true (show y ≠ 0 by omega), Int.fmod_eq_emod_of_nonneg x (by omega)]
    rfl
  simp only [gcStep, sPar, eBin, eCa, aCons, aNil, eVar, bInt, T.bind, List.getElem?_cons_succ, List.getElem?_cons_zero, e, List.set_cons_succ, List.set_cons_zero]
theorem gc_run : ∀ (f x y : Nat), x * y < 2 ^ f → y ≤ x → whT gcTest gcStep (f + 1) [.val (.int x), .val (.int y)] = .ret (.nx [.val (.int (Nat.gcd x y : Nat)), .val (.int 0)])
  | f, x, 0, _, _ => by
    rw [whT, gc_test]
    simp [T.bind]
  | 0, x, y + 1, h, h1 => by
    have : 0 < x * (y + 1) := Nat.mul_pos (by omega) (by omega)
    simp at h
    omega
  | f + 1, x, y + 1, h, h1 => by
    have r := Nat.mod_lt x (show 0 < y + 1 by omega)
    have q : (y + 1) * (x % (y + 1)) < 2 ^ f := by
      have a := Nat.div_add_mod x (y + 1)
      have b : 1 ≤ x / (y + 1) := Nat.div_pos h1 (by omega)
      have c : (y + 1) * 1 ≤ (y + 1) * (x / (y + 1)) := Nat.mul_le_mul_left _ b
      have d : 2 * (x % (y + 1)) ≤ x := by omega
      have e : (2 * (x % (y + 1))) * (y + 1) ≤ x * (y + 1) := Nat.mul_le_mul_right _ d
      have g : (2 * (x % (y + 1))) * (y + 1) = 2 * ((y + 1) * (x % (y + 1))) := by rw [Nat.mul_assoc, Nat.mul_comm (x % (y + 1))]
      rw [g] at e
      rw [Nat.pow_succ] at h
      omega
    rw [whT, gc_test, T.bind]
    have t : (!decide (((y + 1 : Nat) : Int) = 0)) = true := by
      rw [decide_eq_false (by omega)]
      rfl
    rw [t]
    show (gcStep _).bind _ = _
    rw [gc_step (by omega), T.bind]
    have ez : ((x : Int) % ((y + 1 : Nat) : Int)) = ((x % (y + 1) : Nat) : Int) := by omega
    rw [ez]
    show whT gcTest gcStep (f + 1) _ = _
    rw [gc_run f (y + 1) (x % (y + 1)) q (Nat.le_of_lt r)]
    have z : Nat.gcd (y + 1) (x % (y + 1)) = Nat.gcd x (y + 1) := by
      rw [Nat.gcd_comm x, Nat.gcd_rec (y + 1) x, Nat.gcd_comm]
    rw [z]
/-! What a letter comes to, by the program and by the law. -/
theorem all_eq {α : Type} {P : α → Prop} {t : T α} {a : α} (e : t = .ret a) (h : P a) : t.all P := by subst e; exact h
theorem all_dr {α : Type} {P : α → Prop} {t : T α} {n : Nat} {k : Nat → T α} (e : t = .draw n k) (h : ∀ i, i < n → (k i).all P) : t.all P := by subst e; exact h
theorem call1_all {ρ : Rho} {a : Rho → T D} {f : List D → T D} {P : D → Prop} (h : (a ρ).all fun x => (f [x]).all P) : (eCall 1 f (aCons a aNil) ρ).all P :=
  T.all_bind.mpr (T.all_bind.mpr (T.all_mono (fun x hx => hx) h))
theorem call2_all {ρ : Rho} {a b : Rho → T D} {f : List D → T D} {P : D → Prop} (h : (a ρ).all fun x => (b ρ).all fun y => (f [x, y]).all P) : (eCall 2 f (aCons a (aCons b aNil)) ρ).all P :=
  T.all_bind.mpr (T.all_bind.mpr (T.all_mono (fun x hx => T.all_bind.mpr (T.all_bind.mpr (T.all_mono (fun y hy => hy) hx))) h))
theorem call3_all {ρ : Rho} {a b c : Rho → T D} {f : List D → T D} {P : D → Prop} (h : (a ρ).all fun x => (b ρ).all fun y => (c ρ).all fun z => (f [x, y, z]).all P) : (eCall 3 f (aCons a (aCons b (aCons c aNil))) ρ).all P :=
  T.all_bind.mpr (T.all_bind.mpr (T.all_mono (fun x hx => T.all_bind.mpr (T.all_bind.mpr (T.all_mono (fun y hy => T.all_bind.mpr (T.all_bind.mpr (T.all_mono (fun z hz => hz) hy))) hx))) h))
theorem bin_all {ρ : Rho} {a b : Rho → T D} {f : D → D → T D} {P : D → Prop} (h : (a ρ).all fun x => (b ρ).all fun y => (f x y).all P) : (eBin f a b ρ).all P :=
  T.all_bind.mpr (T.all_mono (fun _ hx => T.all_bind.mpr hx) h)
theorem var_val {ρ : Rho} {i : Nat} {d : D} (h : ρ[i]? = some (.val d)) : eVar i ρ = .ret d := by simp only [eVar, h]
theorem rng_val {ρ : Rho} {m : Rho → T D} {k : Nat} (hm : m ρ = .ret (.int (k : Int))) (hk : k ≤ 100000) : iRg rng1 (aCons m aNil) ρ = .ret (upto 0 k) := by
  have e1 : decide ((k : Int) ≤ 100000) = true := decide_eq_true (by omega)
  have e2 : decide (-100000 ≤ (k : Int)) = true := decide_eq_true (by omega)
  simp only [iRg, aCons, aNil, hm, T.bind, rng1, e1, e2, Bool.and_self, cond, Int.toNat_natCast]
theorem forT_cons {body : D → Rho → T Out} {d : D} {ds : List D} {ρ : Rho} {Q : Out → Prop} (h : (body d ρ).all fun o => ∃ ρ', o = .nx ρ' ∧ (forT body ds ρ').all Q) : (forT body (d :: ds) ρ).all Q :=
  T.all_bind.mpr (T.all_mono (fun o ho => by obtain ⟨ρ', rfl, q⟩ := ho; exact q) h)
/-- what a letter comes to -/
def wt : List Nat → List Rat → Rat
  | p :: ps, r :: rs => r ^ p * wt ps rs
  | _, _ => 1
def nI (n : Nat) : D := .int (n : Int)
def nt (l : List Nat) : D := .tup (l.map nI)
structure TB (s : Nat) (q : Rat) (t b : Int) : Prop where
  ne : b ≠ 0
  top : t.natAbs < 2 ^ s
  bot : b.natAbs < 2 ^ s
  eq : Rat.divInt t b = q
section
variable {s n : Nat} {q r : Rat} {t b : Int} {A B x y z : Ent}
theorem TB.mono {s2 : Nat} (h : TB s q t b) (l : s ≤ s2) : TB s2 q t b :=
  ⟨h.ne, Nat.lt_of_lt_of_le h.top (Nat.pow_le_pow_right (by decide) l), Nat.lt_of_lt_of_le h.bot (Nat.pow_le_pow_right (by decide) l), h.eq⟩
theorem TB.one : TB 1 1 1 1 := ⟨by decide, by decide, by decide, by decide +kernel⟩
end
/-! The law's own worth; letters multiplied; a letter at a row. -/
section
variable {s n : Nat} {q r : Rat} {A B x y z : Ent}
end
/-! letters -/
def isLt (c : Nat) (l : List Nat) : Bool := decide (l.length = c) && l.all fun p => decide (p ≤ 8)
theorem isLt_of {c : Nat} {l : List Nat} (h : isLt c l = true) : l.length = c ∧ ∀ p ∈ l, p ≤ 8 := by
  unfold isLt at h
  simp only [Bool.and_eq_true, decide_eq_true_eq, List.all_eq_true] at h
  exact h
theorem count_val (n : Nat) : f_is_count_to [nI n, .int 8] = .ret (.bl (decide (n ≤ 8))) := by
  have e1 : decide ((0 : Int) ≤ (n : Int)) = true := decide_eq_true (by omega)
  have e2 : decide ((n : Int) ≤ 8) = decide (n ≤ 8) := decide_eq_decide.mpr (by omega)
  simp only [f_is_count_to, f_is_count, runB, m_is_count_to, m_is_count, nI, sRet, eAnd, eCall, aCons, aNil, eVar, eC, eBin, isInt_int, T.bind, asB, opGe, opLe, opI, List.map_cons, List.map_nil, List.length_cons, List.length_nil, List.cons_append, List.nil_append, List.getElem?_cons_succ, List.getElem?_cons_zero, BEq.rfl, cond, e1, e2, ge_iff_le]
theorem neI' (i j : Int) : opNeF (.int i) (.int j) = .ret (.bl (!decide (i = j))) := rfl
theorem eqI' (i j : Int) : opEqF (.int i) (.int j) = .ret (.bl (decide (i = j))) := rfl
/-! two letters walked together -/
theorem compT_zip {i j : Nat} {me : Rho → T D} {ρ : Rho} {f : D → D → D} : ∀ {as bs acc : List D}, acc.length + as.length ≤ 100000 → (∀ a ∈ as, ∀ b ∈ bs, me ((ρ.set i (.val a)).set j (.val b)) = .ret (f a b)) → compT (gTp 2 (gsCons (gNm i) (gsCons (gNm j) gsNil))) yesT me ρ (zipD as bs) acc = .ret (acc ++ List.zipWith f as bs)
  | [], bs, acc, _, _ => by simp [zipD, compT]
  | a :: as, [], acc, _, _ => by simp [zipD, compT]
  | a :: as, b :: bs, acc, hl, h => by
    have e := h a List.mem_cons_self b List.mem_cons_self
    rw [List.length_cons] at hl
    have c : small acc = true := decide_eq_true (by omega)
    have e1 : compT (gTp 2 (gsCons (gNm i) (gsCons (gNm j) gsNil))) yesT me ρ (zipD (a :: as) (b :: bs)) acc = (me ((ρ.set i (.val a)).set j (.val b))).bind fun y => cond (small acc) (compT (gTp 2 (gsCons (gNm i) (gsCons (gNm j) gsNil))) yesT me ρ (zipD as bs) (acc ++ [y])) .fail := rfl
    rw [e1, e]
    show cond (small acc) _ _ = _
    rw [c]
    show compT _ yesT me ρ (zipD as bs) (acc ++ [f a b]) = _
    rw [compT_zip (f := f) (by simp; omega) fun x hx y hy => h x (List.mem_cons_of_mem _ hx) y (List.mem_cons_of_mem _ hy), List.append_assoc]
    rfl
def addD : D → D → D
  | .int a, .int b => .int (a + b)
  | _, _ => .non
def addL : List Nat → List Nat → List Nat := List.zipWith (· + ·)
theorem add_nI : ∀ l m : List Nat, List.zipWith addD (l.map nI) (m.map nI) = (addL l m).map nI
  | [], _ => rfl
  | _ :: _, [] => rfl
  | a :: l, b :: m => by
    show addD (nI a) (nI b) :: List.zipWith addD (l.map nI) (m.map nI) = nI (a + b) :: (addL l m).map nI
    rw [add_nI l m]
    show D.int ((a : Int) + (b : Int)) :: _ = D.int ((a + b : Nat) : Int) :: _
    rw [Int.natCast_add]
theorem comp_add {i j : Nat} {me : Rho → T D} {ρ : Rho} {l m : List Nat} (hl : l.length ≤ 1000) (h : ∀ a b : Nat, me ((ρ.set i (.val (nI a))).set j (.val (nI b))) = opAdd (nI a) (nI b)) : compT (gTp 2 (gsCons (gNm i) (gsCons (gNm j) gsNil))) yesT me ρ (zipD (l.map nI) (m.map nI)) [] = .ret ((addL l m).map nI) := by
  rw [compT_zip (f := addD) (by simp; omega) fun a ha b hb => ?_, add_nI]
  · rfl
  · obtain ⟨x, _, rfl⟩ := List.mem_map.mp ha
    obtain ⟨y, _, rfl⟩ := List.mem_map.mp hb
    rw [h]
    rfl
theorem addL_len {l m : List Nat} : (addL l m).length = min l.length m.length := by unfold addL; simp
theorem small_of {ds : List D} (h : ds.length ≤ 100000) : small ds = true := decide_eq_true h
/-- tuple([.. for .. in zip(..)]) -/
theorem tuple_add {i j p q : Nat} {me : Rho → T D} {ρ : Rho} {l m : List Nat} (hp : ρ[p]? = some (.val (nt l))) (hq : ρ[q]? = some (.val (nt m))) (hl : l.length ≤ 1000) (h : ∀ a b : Nat, me (((wipeR ρ [i, j]).set i (.val (nI a))).set j (.val (nI b))) = opAdd (nI a) (nI b)) : eCa bTuple (aCons (eL (lComp [i, j] (iRg zipT (aCons (eVar p) (aCons (eVar q) aNil))) (gTp 2 (gsCons (gNm i) (gsCons (gNm j) gsNil))) yesT me)) aNil) ρ = .ret (nt (addL l m)) := by
  have e := comp_add (ρ := wipeR ρ [i, j]) (i := i) (j := j) (me := me) (l := l) (m := m) hl h
  have e2 : iRg zipT (aCons (eVar p) (aCons (eVar q) aNil)) ρ = .ret (zipD (l.map nI) (m.map nI)) := by
    simp only [iRg, aCons, aNil, eVar, hp, hq, T.bind, nt, zipT]
  have e3 : lComp [i, j] (iRg zipT (aCons (eVar p) (aCons (eVar q) aNil))) (gTp 2 (gsCons (gNm i) (gsCons (gNm j) gsNil))) yesT me ρ = .ret ((addL l m).map nI) := by
    unfold lComp
    rw [e2]
    exact e
  have s := small_of (ds := (addL l m).map nI) (by rw [List.length_map, addL_len]; omega)
  simp only [eCa, aCons, aNil, eL, e3, T.bind, bTuple, s, cond]
  rfl
/-! a row that is passed -/
theorem int_div1 (i : Int) : Rat.divInt i 1 = (i : Rat) := by
  have := Rat.num_divInt_den (i : Rat)
  rw [Rat.num_intCast, Rat.den_intCast] at this
  exact this
def SeqOf (v : D) (ds : List D) : Prop := v = .lst ds ∨ v = .tup ds
theorem SeqOf.sq {v : D} {ds : List D} (h : SeqOf v ds) {ρ : Rho} {i : Nat} (hi : ρ[i]? = some (.val v)) : iSq i ρ = .ret ds := by
  unfold iSq
  rcases h with rfl | rfl <;> rw [hi]

/-! Tables: made of rows, asked for them. -/
theorem sTab : (("Table" : Str) == "Table") = true := by decide +kernel
theorem gtI (i j : Int) : opGt (.int i) (.int j) = .ret (.bl (decide (j < i))) := rfl
/-! the table -/
theorem columns_val (c : Nat) (hc : c ≤ 3) : f_need_columns [.int (c : Int)] = .ret .non := by
  have : c = 0 ∨ c = 1 ∨ c = 2 ∨ c = 3 := by omega
  rcases this with rfl | rfl | rfl | rfl <;> exact rfl
theorem nCol : (("_rows" : Str) == "_columns") = false := by decide +kernel
/-! Texts, what is alike, the arithmetic of worths. -/
/-! alike -/
/-! worths -/
/-! the greatest power -/

/-! What is drawn: letters, rows, rows as they are passed. -/
theorem draw_val {n : Nat} (a : 0 < n) (b : n ≤ 1000000) : f__law_draw [.pot, .int (n : Int)] = .draw n fun i => .ret (.int (i : Int)) := by
  have e1 : decide ((0 : Int) < (n : Int)) = true := decide_eq_true (by omega)
  have e2 : decide ((n : Int) ≤ 1000000) = true := decide_eq_true (by omega)
  unfold f__law_draw
  dsimp only
  rw [e1, e2]
  rfl
/-- a draw in an expression -/
theorem drawE {ρ : Rho} {i n : Nat} {m : Rho → T D} (h : ρ[i]? = some (.val .pot)) (hm : m ρ = .ret (.int (n : Int))) (a : 0 < n) (b : n ≤ 1000000) : eCall 2 f__law_draw (aCons (eVar i) (aCons m aNil)) ρ = .draw n fun i => .ret (.int (i : Int)) := by
  have e : eCall 2 f__law_draw (aCons (eVar i) (aCons m aNil)) ρ = f__law_draw [.pot, .int (n : Int)] := by
    simp only [eCall, aCons, aNil, eVar, h, hm, T.bind, List.length_cons, List.length_nil, BEq.rfl, cond]
  rw [e, draw_val a b]
theorem app_val {ρ : Rho} {i : Nat} {ds : List D} {m : Rho → T D} {d : D} (h : ρ[i]? = some (.own ds)) (hm : m ρ = .ret d) (l : ds.length ≤ 100000) : sApp i m ρ = .ret (.nx (ρ.set i (.own (ds ++ [d])))) := by
  have c : small ds = true := decide_eq_true l
  simp only [sApp, h, hm, T.bind, c, cond]
theorem app_all {ρ : Rho} {i : Nat} {ds : List D} {m : Rho → T D} {P : Out → Prop} (h : ρ[i]? = some (.own ds)) (l : ds.length ≤ 100000) (hm : (m ρ).all fun d => P (.nx (ρ.set i (.own (ds ++ [d]))))) : (sApp i m ρ).all P := by
  have c : small ds = true := decide_eq_true l
  have e : sApp i m ρ = (m ρ).bind fun d => .ret (.nx (ρ.set i (.own (ds ++ [d])))) := by
    simp only [sApp, h, c, cond]
  rw [e]
  exact T.all_bind.mpr hm
/-! a letter -/
/-! a number -/
/-! rows -/
/-! as it is passed -/
theorem seqL_nx {m : Rho → T Out} {ml : Rho → T (List D)} {ρ : Rho} {P : List D → Prop} (h : (m ρ).all fun o => ∃ ρ', o = .nx ρ' ∧ (ml ρ').all P) : (bSeqL m ml ρ).all P :=
  T.all_bind.mpr (T.all_mono (fun o ho => by obtain ⟨ρ', rfl, q⟩ := ho; exact q) h)
theorem zero_cast : ((0 : Int) : Rat) = 0 := by simp
theorem small1 (x : D) : small [x] = true := small_of (by simp)
/-! The table of sums ahead. -/
theorem one_cast : ((1 : Int) : Rat) = 1 := by simp
/-! A table asked; a letter at each row. -/
theorem sRows : (("_rows" : Str) == "_rows") = true := by decide +kernel
theorem sCols : (("_columns" : Str) == "_columns") = true := by decide +kernel
theorem compT_all {i : Nat} {me : Rho → T D} {ρ : Rho} {f : D → D} : ∀ {ds acc : List D}, acc.length + ds.length ≤ 100000 → (∀ d ∈ ds, (me (ρ.set i (.val d))).all fun x => x = f d) → (compT (gNm i) yesT me ρ ds acc).all fun es => es = acc ++ ds.map f
  | [], acc, _, _ => by
    show acc = acc ++ []
    rw [List.append_nil]
  | d :: ds, acc, hl, h => by
    rw [List.length_cons] at hl
    have c : small acc = true := decide_eq_true (by omega)
    have e : compT (gNm i) yesT me ρ (d :: ds) acc = (me (ρ.set i (.val d))).bind fun y => cond (small acc) (compT (gNm i) yesT me ρ ds (acc ++ [y])) .fail := rfl
    rw [e, c]
    refine T.all_bind.mpr (T.all_mono (fun y hy => ?_) (h d List.mem_cons_self))
    subst hy
    have ih := compT_all (i := i) (me := me) (ρ := ρ) (f := f) (ds := ds) (acc := acc ++ [f d]) (by simp; omega) fun x hx => h x (List.mem_cons_of_mem _ hx)
    refine T.all_mono (fun es he => ?_) ih
    rw [he, List.append_assoc]
    rfl
def unRow : D → List Rat
  | .lst ds => ds.map fun d => match d with
    | .ins _ [(_, .int t), (_, .int b)] => Rat.divInt t b
    | _ => 0
  | _ => []
/-! The law's own worth; letters multiplied; a letter at a row. -/
section
variable {s n : Nat} {q r : Rat} {A B x y z : Ent}
end
/-! letters -/
theorem counts_val {c : Int} {l : List Nat} (h : l.length ≤ 1000) : lComp [3] (iTp (eVar 1)) (gNm 3) yesT (eCall 2 f_is_count_to (aCons (eVar 3) (aCons (eVar 2) aNil))) [.val (.int c), .val (nt l), .val (.int 8), .un] = .ret ((l.map nI).map fun d => .bl (match d with | .int i => decide (i ≤ 8) | _ => false)) := by
  show compT (gNm 3) yesT _ [.val (.int c), .val (nt l), .val (.int 8), .un] (l.map nI) [] = _
  rw [compT_map (f := fun d => .bl (match d with | .int i => decide (i ≤ 8) | _ => false)) (by simp; omega) fun d hd => ?_]
  · rfl
  · obtain ⟨n, _, rfl⟩ := List.mem_map.mp hd
    show (cond (2 == 2) (f_is_count_to [nI n, .int 8]) .fail) = _
    rw [BEq.rfl, count_val]
    show T.ret _ = T.ret _
    have e2 : decide ((n : Int) ≤ 8) = decide (n ≤ 8) := decide_eq_decide.mpr (by omega)
    show T.ret (D.bl (decide (n ≤ 8))) = T.ret (D.bl (decide ((n : Int) ≤ 8)))
    rw [e2]
theorem letter_to_val {c : Nat} {l : List Nat} (h : l.length ≤ 1000) : f_is_letter_to [.int (c : Int), nt l, .int 8] = .ret (.bl (isLt c l)) := by
  have y1 : isDY [] .tuple (nt l) = .ret (.bl true) := rfl
  have len : bLen [nt l] = .ret (.int (l.length : Int)) := by
    show T.ret (D.int ((l.map nI).length : Int)) = _
    rw [List.length_map]
  have al := all_val (p := fun d => match d with | .int i => decide (i ≤ 8) | _ => false) (l.map nI)
  have e : decide ((l.length : Int) = (c : Int)) = decide (l.length = c) := decide_eq_decide.mpr (by omega)
  have e3 : (l.map nI).all (fun d => match d with | .int i => decide (i ≤ 8) | _ => false) = l.all fun p => decide (p ≤ 8) := by
    rw [List.all_map]
    congr 1
    funext p
    exact decide_eq_decide.mpr (show ((p : Int) ≤ 8) ↔ p ≤ 8 by omega)
  rw [e3] at al
  simp only [f_is_letter_to, runB, m_is_letter_to, bSeq, sIf, sRet, tOr', tNot', eTest, eUn, eVar, eBin, eCa, eC, aCons, aNil, bNil, List.map_cons, List.map_nil, List.length_cons, List.length_nil, List.cons_append, List.nil_append, List.replicate, List.getElem?_cons_succ, List.getElem?_cons_zero, T.bind, y1, asB, cond, Bool.not_true, len, neI', eL, e, isLt]
  cases decide (l.length = c) <;> simp only [Bool.not_true, Bool.not_false, T.bind, counts_val h, al, Bool.true_and, Bool.false_and]
/-! two letters walked together -/
/-! a row that is passed -/
/-- a word -/
def nw (ls : List (List Nat)) : D := .tup (ls.map nt)
def isWd (c : Nat) (ls : List (List Nat)) : Bool := decide (ls.length ≤ 8) && ls.all (isLt c)
def isLD (c : Nat) : D → Bool
  | .tup ds => decide (ds.length = c) && ds.all fun d => match d with
    | .int i => decide (i ≤ 8)
    | _ => false
  | _ => false
theorem isLD_nt (c : Nat) (l : List Nat) : isLD c (nt l) = isLt c l := by
  show (decide ((l.map nI).length = c) && (l.map nI).all _) = _
  unfold isLt
  rw [List.length_map, List.all_map]
  congr 2
  funext p
  exact decide_eq_decide.mpr (show ((p : Int) ≤ 8) ↔ p ≤ 8 by omega)
theorem letters_val {c : Nat} {ls : List (List Nat)} (h : ls.length ≤ 8) (h2 : ∀ l ∈ ls, l.length ≤ 1000) : lComp [3] (iTp (eVar 1)) (gNm 3) yesT (eCall 3 f_is_letter_to (aCons (eVar 0) (aCons (eVar 3) (aCons (eVar 2) aNil)))) [.val (.int (c : Int)), .val (nw ls), .val (.int 8), .un] = .ret ((ls.map nt).map fun d => .bl (isLD c d)) := by
  show compT (gNm 3) yesT _ [.val (.int (c : Int)), .val (nw ls), .val (.int 8), .un] (ls.map nt) [] = _
  rw [compT_map (f := fun d => .bl (isLD c d)) (by simp; omega) fun d hd => ?_]
  · rfl
  · obtain ⟨l, hl, rfl⟩ := List.mem_map.mp hd
    show (cond (3 == 3) (f_is_letter_to [.int (c : Int), nt l, .int 8]) .fail) = _
    rw [isLD_nt]
    exact letter_to_val (h2 l hl)
theorem word_to_val {c : Nat} {ls : List (List Nat)} (h : isWd c ls = true) (h3 : c ≤ 3) : f_is_word_to [.int (c : Int), nw ls, .int 8] = .ret (.bl true) := by
  obtain ⟨a, b⟩ := Bool.and_eq_true_iff.mp h
  have a := of_decide_eq_true a
  have b2 : ∀ l ∈ ls, l.length ≤ 1000 := fun l hl => by
    have := (isLt_of (List.all_eq_true.mp b l hl)).1
    omega
  have y1 : isDY [] .tuple (nw ls) = .ret (.bl true) := rfl
  have len : bLen [nw ls] = .ret (.int (ls.length : Int)) := by
    show T.ret (D.int ((ls.map nt).length : Int)) = _
    rw [List.length_map]
  have al := all_val (p := isLD c) (ls.map nt)
  have e3 : (ls.map nt).all (isLD c) = true := by
    rw [List.all_map, ← b]
    congr 1
    funext l
    exact isLD_nt c l
  rw [e3] at al
  have big : decide ((8 : Int) < (ls.length : Int)) = false := decide_eq_false (by omega)
  simp only [f_is_word_to, runB, m_is_word_to, bSeq, sIf, sRet, tOr', tNot', eTest, eUn, eVar, eBin, eCa, eC, aCons, aNil, bNil, List.map_cons, List.map_nil, List.length_cons, List.length_nil, List.cons_append, List.nil_append, List.replicate, List.getElem?_cons_succ, List.getElem?_cons_zero, T.bind, y1, asB, cond, Bool.not_true, len, gtI, big, eL, letters_val (c := c) a b2, al]
theorem need_word_val {c : Nat} {ls : List (List Nat)} (h : isWd c ls = true) (h3 : c ≤ 3) : f_need_word [.int (c : Int), nw ls] = .ret .non := by
  have w : f_is_word [.int (c : Int), nw ls] = .ret (.bl true) := by
    simp only [f_is_word, runB, m_is_word, bSeq, sExpr, sRet, eCall, aCons, aNil, eVar, eC, List.map_cons, List.map_nil, List.length_cons, List.length_nil, List.cons_append, List.nil_append, List.replicate, List.getElem?_cons_succ, List.getElem?_cons_zero, T.bind, BEq.rfl, cond, columns_val c h3, word_to_val h h3]
  simp only [f_need_word, runB, m_need_word, sIf, tNot', eTest, eCall, aCons, aNil, eVar, List.map_cons, List.map_nil, List.length_cons, List.length_nil, List.cons_append, List.nil_append, List.getElem?_cons_succ, List.getElem?_cons_zero, T.bind, BEq.rfl, cond, w, asB, Bool.not_true, bNil]
/-! A word's sums ahead, over a table. -/
def wS (ls : List (List Nat)) (rss : List (List Rat)) : Nat → Nat → Rat := fun k a => wt (ls.getD k []) (rss.getD a [])
theorem map_range {α β : Type} (f : α → β) (l : List α) (d : α) : l.map f = (List.range l.length).map fun i => f (l.getD i d) := by
  refine List.ext_getElem (by simp) fun i h1 h2 => ?_
  have hi : i < l.length := by simpa using h1
  simp [List.getD, hi]
def unLt : D → List Nat
  | .tup ds => ds.map fun d => match d with
    | .int i => i.toNat
    | _ => 0
  | _ => []
theorem un_lt (l : List Nat) : unLt (nt l) = l := by
  show (l.map nI).map _ = l
  rw [List.map_map]
  exact (List.map_congr_left fun p _ => Int.toNat_natCast p).trans (List.map_id _)
theorem sRow2 : (("rows" : Str) == "_columns") = false ∧ (("rows" : Str) == "_rows") = false := by decide +kernel
/-! The law's own sums, differences, products of pairs; sizes; quotients; order. -/
section
variable {P : Program} {w : World} {K : PySem.W.Frag} {mg : Str → Option Value} {base : Heap} {a_f a_low : Addr} {d_f d_low : FuncData}
end
section
variable {p q : Rat} {d : D} {m n : Nat}
theorem two_pow_add (h : a < 2 ^ n) (h2 : b < 2 ^ n) : a + b < 2 ^ (n + 1) := by
  rw [Nat.pow_succ]; omega
end

/-! Texts, what is alike, the arithmetic of worths. -/
/-! alike -/
/-! worths -/
/-! the greatest power -/
/-- how many bits the steps' sums have -/
def fb : Nat → Nat → Nat
  | 0, _ => 1
  | _ + 1, 0 => 1
  | k + 1, n + 1 => fb (k + 1) n + (fb k n + 20) + 1
theorem fb0 (n : Nat) : fb 0 n = 1 := by cases n <;> rfl
theorem fb_le : ∀ k, k ≤ 4 → ∀ a, a ≤ 8 → fb k a ≤ 4000 := by
  have h : ((List.range 5).all fun k => (List.range 9).all fun a => decide (fb k a ≤ 4000)) = true := by decide +kernel
  intro k hk a ha
  have h1 := List.all_eq_true.mp h k (List.mem_range.mpr (by omega))
  exact of_decide_eq_true (List.all_eq_true.mp h1 a (List.mem_range.mpr (by omega)))
/-! A word's sum, sums behind, cuts, words and tables turned, tables joined. -/
/-- the word's sum over the rows -/
def WS (ls : List (List Nat)) (rss : List (List Rat)) : Rat := dpS (wS ls rss) ls.length rss.length
section
variable {c : Nat} {ls : List (List Nat)} {rss qss : List (List Rat)}
theorem getD_rev {α : Type} (l : List α) (i : Nat) (d : α) (h : i < l.length) : l.reverse.getD i d = l.getD (l.length - 1 - i) d := by
  rw [List.getD_eq_getElem?_getD, List.getD_eq_getElem?_getD, List.getElem?_reverse h]
theorem wS_rev {k a : Nat} (hk : k < ls.length) (ha : a < rss.length) : wS ls.reverse rss.reverse k a = rv (wS ls rss) ls.length rss.length k a := by
  unfold wS rv
  rw [getD_rev _ _ _ hk, getD_rev _ _ _ ha]
theorem dp_rev {a : Nat} (h : a ≤ rss.length) : dpS (wS ls.reverse rss.reverse) ls.length a = dpS (rv (wS ls rss) ls.length rss.length) ls.length a :=
  dp_congr (fun k a hk ha => wS_rev hk ha) a _ (Nat.le_refl _) h
theorem WS_rev : WS ls.reverse rss.reverse = WS ls rss := by
  unfold WS
  rw [List.length_reverse, List.length_reverse, dp_rev (Nat.le_refl _), dp_turn]
theorem getD_take {α : Type} (l : List α) (n i : Nat) (d : α) (h : i < n) : (l.take n).getD i d = l.getD i d := by
  rw [List.getD_eq_getElem?_getD, List.getD_eq_getElem?_getD, List.getElem?_take_of_lt h]
theorem getD_drop {α : Type} (l : List α) (n i : Nat) (d : α) : (l.drop n).getD i d = l.getD (n + i) d := by
  rw [List.getD_eq_getElem?_getD, List.getD_eq_getElem?_getD, List.getElem?_drop]
theorem WS_take {a : Nat} (h : a ≤ rss.length) : WS ls (rss.take a) = dpS (wS ls rss) ls.length a := by
  unfold WS
  rw [List.length_take, Nat.min_eq_left h]
  refine dp_congr (fun k b _ hb => ?_) a _ (Nat.le_refl _) (Nat.le_refl _)
  unfold wS
  rw [getD_take _ _ _ _ hb]
theorem WS_drop {a : Nat} (h : a ≤ rss.length) : WS ls (rss.drop a) = dpS (wS ls.reverse rss.reverse) ls.length (rss.length - a) := by
  rw [dp_rev (by omega), dp_behind h]
  unfold WS
  rw [List.length_drop]
  refine dp_congr (fun k b _ _ => ?_) _ _ (Nat.le_refl _) (Nat.le_refl _)
  unfold wS
  rw [getD_drop]
theorem WS_join : WS ls (rss ++ qss) = sumR ((List.range (ls.length + 1)).map fun i => WS (ls.take i) rss * WS (ls.drop i) qss) := by
  unfold WS
  rw [List.length_append, dp_join]
  refine sumR_congr fun i hi => ?_
  have hi := List.mem_range.mp hi
  rw [List.length_take, List.length_drop, Nat.min_eq_left (by omega)]
  congr 1
  · refine dp_congr (fun k b hk hb => ?_) _ _ (Nat.le_refl _) (Nat.le_refl _)
    unfold wS
    rw [getD_take _ _ _ _ hk]
    congr 1
    rw [List.getD_eq_getElem?_getD, List.getD_eq_getElem?_getD, List.getElem?_append_left hb]
  · refine dp_congr (fun k b hk hb => ?_) _ _ (Nat.le_refl _) (Nat.le_refl _)
    unfold sh wS
    rw [getD_drop]
    congr 1
    rw [List.getD_eq_getElem?_getD, List.getD_eq_getElem?_getD, List.getElem?_append_right (by omega), Nat.add_sub_cancel_left]
end
/-! word_sum -/
section
variable {c : Nat} {ls : List (List Nat)} {rss qss : List (List Rat)}
/-! sums behind -/
theorem rev_val {m : Rho → T D} {ρ : Rho} {ds : List D} (h : m ρ = .ret (.lst ds)) : lRev m ρ = .ret ds.reverse := by
  simp only [lRev, h, T.bind, asL]
end

/-! Cuts, what is turned, what is joined. -/
theorem upto_nI : ∀ (n j : Nat), upto (j : Int) n = (List.range' j n).map nI
  | 0, j => rfl
  | n + 1, j => by
    show D.int (j : Int) :: upto ((j : Int) + 1) n = nI j :: (List.range' (j + 1) n).map nI
    have e := upto_nI n (j + 1)
    rw [show ((j + 1 : Nat) : Int) = (j : Int) + 1 by omega] at e
    rw [e]
    rfl
theorem upto_range (n : Nat) : upto 0 n = (List.range n).map nI := by
  have := upto_nI n 0
  rw [List.range_eq_range']
  exact this
theorem cut_lo {xs : List D} {i : Nat} (h : i ≤ xs.length) : cutD xs none (some (i : Int)) = xs.take i := by
  unfold cutD
  rw [HT.sIx_none, HT.sIx_nat, List.drop_zero, Nat.sub_zero, Nat.min_eq_left h]
theorem cut_hi {xs : List D} {i : Nat} (h : i ≤ xs.length) : cutD xs (some (i : Int)) none = xs.drop i := by
  unfold cutD
  rw [HT.sIx_none, HT.sIx_nat, Nat.min_eq_left h]
  exact List.take_of_length_le (by rw [List.length_drop]; exact Nat.le_refl _)
theorem sl_lo {ρ : Rho} {p q i : Nat} {ds : List D} (hp : ρ[p]? = some (.val (.tup ds))) (hq : ρ[q]? = some (.val (nI i))) (h : i ≤ ds.length) : eSl (eVar p) oNo (oPart (eVar q)) ρ = .ret (.tup (ds.take i)) := by
  unfold nI at hq
  simp only [eSl, eVar, oNo, oPart, hp, hq, T.bind, slD, cut_lo h]
theorem sl_hi {ρ : Rho} {p q i : Nat} {ds : List D} (hp : ρ[p]? = some (.val (.tup ds))) (hq : ρ[q]? = some (.val (nI i))) (h : i ≤ ds.length) : eSl (eVar p) (oPart (eVar q)) oNo ρ = .ret (.tup (ds.drop i)) := by
  unfold nI at hq
  simp only [eSl, eVar, oNo, oPart, hp, hq, T.bind, slD, cut_hi h]
theorem sl_loL {ρ : Rho} {p q i : Nat} {ds : List D} (hp : ρ[p]? = some (.val (.lst ds))) (hq : ρ[q]? = some (.val (nI i))) (h : i ≤ ds.length) : eSl (eVar p) oNo (oPart (eVar q)) ρ = .ret (.lst (ds.take i)) := by
  unfold nI at hq
  simp only [eSl, eVar, oNo, oPart, hp, hq, T.bind, slD, cut_lo h]
theorem sl_hiL {ρ : Rho} {p q i : Nat} {ds : List D} (hp : ρ[p]? = some (.val (.lst ds))) (hq : ρ[q]? = some (.val (nI i))) (h : i ≤ ds.length) : eSl (eVar p) (oPart (eVar q)) oNo ρ = .ret (.lst (ds.drop i)) := by
  unfold nI at hq
  simp only [eSl, eVar, oNo, oPart, hp, hq, T.bind, slD, cut_hi h]
def unI : D → Nat
  | .int i => i.toNat
  | _ => 0
theorem un_I (i : Nat) : unI (nI i) = i := Int.toNat_natCast i
@[irreducible] def nwF : List D → T D := f_need_word
theorem nwF_val {c : Nat} {ls : List (List Nat)} (h : isWd c ls = true) (h3 : c ≤ 3) : nwF [.int (c : Int), nw ls] = .ret .non := by
  unfold nwF
  exact need_word_val h h3
section
variable {c : Nat} {ls : List (List Nat)} {rss qss : List (List Rat)}
/-! tables -/
end

/-! The law's own choices and sums. -/
/-- plain data, not deep -/
def PyOk (n : Nat) (d : D) : Prop := ∃ p, d.py = some p ∧ p.canLay0 = true ∧ p.depth ≤ n
def PysOk (n : Nat) (ds : List D) : Prop := ∃ ps, D.pys ds = some ps ∧ PyData.canLayAll0 ps = true ∧ PyData.depthAll ps ≤ n
theorem pys_ok {n : Nat} : ∀ {ds : List D}, (∀ d ∈ ds, PyOk n d) → PysOk n ds
  | [], _ => ⟨[], rfl, rfl, Nat.zero_le _⟩
  | d :: ds, h => by
    obtain ⟨p, e, a, b⟩ := h d List.mem_cons_self
    obtain ⟨ps, e2, a2, b2⟩ := pys_ok fun x hx => h x (List.mem_cons_of_mem _ hx)
    refine ⟨p :: ps, ?_, ?_, ?_⟩
    · unfold D.pys
      rw [e, e2]
    · show (p.canLay0 && PyData.canLayAll0 ps) = true
      rw [a, a2]
      rfl
    · show max p.depth (PyData.depthAll ps) ≤ n
      exact Nat.max_le.mpr ⟨b, b2⟩
theorem py_int (i : Int) : PyOk 0 (.int i) := ⟨_, rfl, rfl, Nat.le_refl _⟩
theorem py_lst {n : Nat} {ds : List D} (h : ∀ d ∈ ds, PyOk n d) : PyOk (n + 1) (.lst ds) := by
  obtain ⟨ps, e, a, b⟩ := pys_ok h
  refine ⟨.list ps, ?_, a, Nat.succ_le_succ b⟩
  unfold D.py
  rw [e]
theorem py_tup {n : Nat} {ds : List D} (h : ∀ d ∈ ds, PyOk n d) : PyOk (n + 1) (.tup ds) := by
  obtain ⟨ps, e, a, b⟩ := pys_ok h
  refine ⟨.tuple ps, ?_, a, Nat.succ_le_succ b⟩
  unfold D.py
  rw [e]
theorem ne_nil {n : Nat} {ds : List D} (h : PyOk n (.lst ds)) (l : n ≤ 64) : opNeF (.lst ds) (.lst []) = .ret (.bl (!ds.isEmpty)) := by
  obtain ⟨p, e, a, b⟩ := h
  have sp : SeqAt.shaped p = true := by
    unfold SeqAt.shaped
    rw [a, decide_eq_true (by omega)]
    rfl
  have e0 : D.py (.lst []) = some (.list []) := rfl
  have s0 : SeqAt.shaped (.list []) = true := rfl
  have q : eqD (.lst ds) (.lst []) = some (ds.isEmpty) := by
    unfold eqD
    rw [e, e0]
    dsimp only
    rw [sp, s0]
    show some (PyData.eqv p (.list [])) = _
    congr 1
    unfold D.py at e
    cases ds with
    | nil => cases e; rfl
    | cons d ds =>
      split at e
      · rename_i ks hk
        cases e
        have : ks ≠ [] := by
          rintro rfl
          unfold D.pys at hk
          split at hk
          · cases hk
          · split at hk <;> cases hk
        cases ks with
        | nil => exact absurd rfl this
        | cons k ks => rfl
      · cases e
  show opNe (.lst ds) (.lst []) = _
  unfold opNe
  rw [q]
/-! choices -/
def nl (l : List Nat) : D := .lst (l.map nI)
def chD (n k : Nat) : List D := (chs n k).map nl
theorem nl_ne (l : List Nat) : opNeF (nl l) (.lst []) = .ret (.bl (!l.isEmpty)) := by
  have h : PyOk 1 (nl l) := py_lst fun d hd => by
    obtain ⟨n, _, rfl⟩ := List.mem_map.mp hd
    exact py_int _
  have e := ne_nil h (by decide)
  rw [show (l.map nI).isEmpty = l.isEmpty by cases l <;> rfl] at e
  exact e
def stE : Rho → T D := eIf (eTest (eBin opNeF (eVar 5) (eL (lLst aNil)))) (eBin opAdd (eBin ixD (eVar 5) (eUn uNeg (eC (.int 1)))) (eC (.int 1))) (eC (.int 0))
theorem nl_last {l : List Nat} {a : Nat} : ixD (nl (l ++ [a])) (.int (-1)) = .ret (nI a) := by
  show ixL ((l ++ [a]).map nI) (.int (-1)) = _
  unfold ixL
  dsimp only
  have e : atI ((l ++ [a]).map nI) (-1) = some (nI a) := by
    unfold atI ixN
    have h : ((l ++ [a]).map nI).length = l.length + 1 := by simp
    rw [h, if_neg (by omega), if_pos (by omega)]
    show ((l ++ [a]).map nI)[((-1 : Int) + ((l.length + 1 : Nat) : Int)).toNat]? = _
    rw [show ((-1 : Int) + ((l.length + 1 : Nat) : Int)).toNat = l.length by omega, List.getElem?_map, List.getElem?_append_right (Nat.le_refl _), Nat.sub_self]
    rfl
  rw [e]
theorem stE_val {ρ : Rho} {l : List Nat} (h : ρ[5]? = some (.val (nl l))) : stE ρ = .ret (nI (st l)) := by
  have e0 : eL (lLst aNil) ρ = .ret (.lst []) := rfl
  have t : eTest (eBin opNeF (eVar 5) (eL (lLst aNil))) ρ = .ret (!l.isEmpty) := by
    simp only [eTest, eBin, e0, eVar, h, T.bind, nl_ne, asB]
  unfold stE eIf
  rw [t]
  rcases List.eq_nil_or_concat l with rfl | ⟨m, a, rfl⟩
  · rfl
  · have ne : (m ++ [a]).isEmpty = false := by cases m <;> rfl
    rw [List.concat_eq_append] at h t ⊢
    rw [ne]
    show eBin opAdd (eBin ixD (eVar 5) (eUn uNeg (eC (.int 1)))) (eC (.int 1)) ρ = _
    have e2 : eUn uNeg (eC (.int 1)) ρ = .ret (.int (-1)) := rfl
    have e3 : eBin ixD (eVar 5) (eUn uNeg (eC (.int 1))) ρ = .ret (nI a) := by
      simp only [eBin, e2, eVar, h, T.bind, nl_last]
    simp only [eBin, eC] at e3 ⊢
    rw [e3, st_app]
    rfl
@[irreducible] def chC : Rho → T (List D) := lComp [6] (iRg rng2 (aCons stE (aCons (eVar 0) aNil))) (gNm 6) yesT (eBin opAdd (eVar 5) (eL (lLst (aCons (eVar 6) aNil))))
theorem chC_val {n k : Nat} {l : List Nat} {x2 x3 x4 x6 : Ent} (hn : n ≤ 1000) (hl : l.length ≤ 1000) (hs : st l ≤ 1001) : chC [.val (nI n), .val (nI k), x2, x3, x4, .val (nl l), x6] = .ret ((up (st l) n).map fun a => nl (l ++ [a])) := by
  have s := stE_val (ρ := [.val (nI n), .val (nI k), x2, x3, x4, .val (nl l), x6]) (l := l) rfl
  have r : iRg rng2 (aCons stE (aCons (eVar 0) aNil)) [.val (nI n), .val (nI k), x2, x3, x4, .val (nl l), x6] = .ret ((up (st l) n).map nI) := by
    have e1 : decide ((n : Int) ≤ 100000) = true := decide_eq_true (by omega)
    have e2 : decide (-100000 ≤ (n : Int)) = true := decide_eq_true (by omega)
    have e3 : decide ((st l : Int) ≤ 100000) = true := decide_eq_true (by omega)
    have e4 : decide (-100000 ≤ (st l : Int)) = true := decide_eq_true (by omega)
    have g : rng2 [nI (st l), nI n] = .ret (upto (st l : Int) ((n : Int) - (st l : Int)).toNat) := by
      show cond (decide ((n : Int) ≤ 100000) && decide (-100000 ≤ (n : Int)) && (decide ((st l : Int) ≤ 100000) && decide (-100000 ≤ (st l : Int)))) (T.ret (upto (st l : Int) ((n : Int) - (st l : Int)).toNat)) .fail = _
      rw [e1, e2, e3, e4]
      rfl
    rw [show ((n : Int) - (st l : Int)).toNat = n - st l by omega, upto_nI] at g
    simp only [iRg, aCons, aNil, s, eVar, List.getElem?_cons_zero, T.bind]
    exact g
  unfold chC lComp
  rw [r]
  show compT (gNm 6) yesT _ [.val (nI n), .val (nI k), x2, x3, x4, .val (nl l), .un] ((up (st l) n).map nI) [] = _
  have ul : (up (st l) n).length ≤ 1000 := by unfold up; simp; omega
  rw [compT_map (f := fun d => nl (l ++ [unI d])) (by simp; omega) fun d hd => ?_]
  · rw [List.nil_append, List.map_map]
    congr 1
  · obtain ⟨a, _, rfl⟩ := List.mem_map.mp hd
    rw [un_I]
    have s1 : small [nI a] = true := small1 _
    have e1 : eL (lLst (aCons (eVar 6) aNil)) [.val (nI n), .val (nI k), x2, x3, x4, .val (nl l), .val (nI a)] = .ret (.lst [nI a]) := by
      simp only [eL, lLst, aCons, aNil, eVar, List.getElem?_cons_succ, List.getElem?_cons_zero, T.bind, s1, cond]
    have s2 : small (l.map nI ++ [nI a]) = true := small_of (by simp; omega)
    show ((eVar 5 [.val (nI n), .val (nI k), x2, x3, x4, .val (nl l), .val (nI a)]).bind fun x => (eL (lLst (aCons (eVar 6) aNil)) [.val (nI n), .val (nI k), x2, x3, x4, .val (nl l), .val (nI a)]).bind fun y => opAdd x y) = _
    rw [e1]
    show opAdd (.lst (l.map nI)) (.lst [nI a]) = _
    unfold opAdd
    dsimp only
    rw [s2]
    unfold nl
    rw [List.map_append]
    rfl
@[irreducible] def chB : Rho → T Out := bSeq (sOwn 4 (lLst aNil)) (bSeq (sFor (iLst (eVar 2)) (gNm 5) (sExt 4 chC)) (bFreeze 4 (sSet 2 (eVar 4))))
theorem ch_eq : m__law_choices = bSeq (sOwn 2 (lLst (aCons (eL (lLst aNil)) aNil))) (bFreeze 2 (bSeq (sFor (iRg rng1 (aCons (eVar 1) aNil)) (gNm 3) chB) (sRet (eVar 2)))) := by
  unfold m__law_choices chB chC stE
  rfl
theorem chs_lt {n : Nat} : ∀ {k : Nat} {l : List Nat}, l ∈ chs n k → ∀ a ∈ l, a < n
  | 0, l, h => by
    rw [List.mem_singleton.mp h]
    intro a ha
    cases ha
  | k + 1, l, h => by
    obtain ⟨one, h1, h2⟩ := List.mem_flatMap.mp h
    obtain ⟨b, hb, rfl⟩ := List.mem_map.mp h2
    intro a ha
    rcases List.mem_append.mp ha with z | z
    · exact chs_lt h1 a z
    · rw [List.mem_singleton.mp z]
      exact (up_mem hb).2
theorem st_le {n k : Nat} {l : List Nat} (h : l ∈ chs n k) : st l ≤ n := by
  rcases List.eq_nil_or_concat l with rfl | ⟨m, a, rfl⟩
  · exact Nat.zero_le _
  · rw [List.concat_eq_append] at h ⊢
    rw [st_app]
    exact chs_lt h a (by simp)
theorem chs_few : ((List.range 6).all fun n => (List.range 5).all fun k => decide ((chs n k).length ≤ 10)) = true := by decide +kernel
theorem chs_few' {n k : Nat} (hn : n ≤ 5) (hk : k ≤ 4) : (chs n k).length ≤ 10 := by
  have := List.all_eq_true.mp (List.all_eq_true.mp chs_few n (List.mem_range.mpr (by omega))) k (List.mem_range.mpr (by omega))
  exact of_decide_eq_true this
/-- one letter more -/
theorem chB_val {n k j : Nat} {x3 x4 x5 x6 : Ent} (hn : n ≤ 5) (hj : j < 4) : T.all (fun o => ∃ x5', o = .nx [.val (nI n), .val (nI k), .val (.lst (chD n (j + 1))), x3, .val (.lst (chD n (j + 1))), x5', x6]) (chB [.val (nI n), .val (nI k), .val (.lst (chD n j)), x3, x4, x5, x6]) := by
  unfold chB
  refine seq_nx (all_eq rfl ⟨_, rfl, seq_nx ?_⟩)
  show T.all _ (forT _ (chD n j) [.val (nI n), .val (nI k), .val (.lst (chD n j)), x3, .own [], x5, x6])
  refine T.all_mono (fun o ho => ?_) (for_inv (P := fun i ρ => ∃ x, ρ = [.val (nI n), .val (nI k), .val (.lst (chD n j)), x3, .own ((((chs n j).take i).flatMap fun one => (up (st one) n).map fun a => one ++ [a]).map nl), x, x6]) (k := 0) ⟨x5, rfl⟩ fun i d ρ hi hd hp => ?_)
  · obtain ⟨ρ', rfl, x, rfl⟩ := ho
    refine ⟨_, rfl, ?_⟩
    have l : (chD n j).length = (chs n j).length := by unfold chD; simp
    rw [l, Nat.zero_add, List.take_length]
    exact ⟨x, rfl⟩
  · obtain ⟨x, rfl⟩ := hp
    rw [Nat.sub_zero] at hd
    unfold chD at hd
    rw [List.getElem?_map] at hd
    obtain ⟨l, hl, rfl⟩ := Option.map_eq_some_iff.mp hd
    have lm : l ∈ chs n j := List.mem_of_getElem? hl
    have ll := chs_len lm
    have ls := st_le lm
    have few := chs_few' hn (show j + 1 ≤ 4 by omega)
    have bound : (((chs n j).take (i + 1)).flatMap fun one => (up (st one) n).map fun a => one ++ [a]).length ≤ 10 := by
      refine Nat.le_trans ?_ few
      show _ ≤ ((chs n j).flatMap fun one => (up (st one) n).map fun a => one ++ [a]).length
      have := List.take_append_drop (i + 1) (chs n j)
      conv => rhs; rw [← this]
      rw [List.flatMap_append, List.length_append]
      exact Nat.le_add_right _ _
    have tk : (chs n j).take (i + 1) = (chs n j).take i ++ [l] := by
      rw [List.take_add_one, hl]
      rfl
    have e := chC_val (n := n) (k := k) (l := l) (x2 := .val (.lst (chD n j))) (x3 := x3) (x4 := .own ((((chs n j).take i).flatMap fun one => (up (st one) n).map fun a => one ++ [a]).map nl)) (x6 := x6) (by omega) (by omega) (by omega)
    rw [tk, List.flatMap_append] at bound ⊢
    have sm : small (((((chs n j).take i).flatMap fun one => (up (st one) n).map fun a => one ++ [a]).map nl) ++ ((up (st l) n).map fun a => nl (l ++ [a]))) = true := small_of (by
      rw [List.length_append, List.length_map, List.length_map]
      rw [List.length_append] at bound
      have z : ([l].flatMap fun one => (up (st one) n).map fun a => one ++ [a]).length = (up (st l) n).length := by simp
      omega)
    show T.all _ (sExt 4 chC [.val (nI n), .val (nI k), .val (.lst (chD n j)), x3, .own ((((chs n j).take i).flatMap fun one => (up (st one) n).map fun a => one ++ [a]).map nl), .val (nl l), x6])
    have e2 : sExt 4 chC [.val (nI n), .val (nI k), .val (.lst (chD n j)), x3, .own ((((chs n j).take i).flatMap fun one => (up (st one) n).map fun a => one ++ [a]).map nl), .val (nl l), x6] = .ret (.nx [.val (nI n), .val (nI k), .val (.lst (chD n j)), x3, .own ((((((chs n j).take i).flatMap fun one => (up (st one) n).map fun a => one ++ [a]).map nl)) ++ ((up (st l) n).map fun a => nl (l ++ [a]))), .val (nl l), x6]) := by
      unfold sExt
      show ((chC _).bind fun es => _) = _
      rw [e]
      show cond (small _) _ _ = _
      rw [sm]
      rfl
    rw [e2]
    refine ⟨_, rfl, .val (nl l), ?_⟩
    rw [List.map_append, List.flatMap_cons, List.flatMap_nil, List.append_nil, List.map_map]
    rfl
@[irreducible] def chF : List D → T D := f__law_choices
theorem ch_all {n k : Nat} (hn : n ≤ 5) (hk : k ≤ 4) : T.all (fun d => d = .lst (chD n k)) (chF [nI n, nI k]) := by
  unfold chF f__law_choices runB
  rw [ch_eq]
  have first : sOwn 2 (lLst (aCons (eL (lLst aNil)) aNil)) [.val (nI n), .val (nI k), .un, .un, .un, .un, .un] = .ret (.nx [.val (nI n), .val (nI k), .own [.lst []], .un, .un, .un, .un]) := rfl
  refine T.all_bind.mpr (seq_nx (all_eq first ⟨_, rfl, ?_⟩))
  show T.all _ (bSeq (sFor (iRg rng1 (aCons (eVar 1) aNil)) (gNm 3) chB) (sRet (eVar 2)) [.val (nI n), .val (nI k), .val (.lst (chD n 0)), .un, .un, .un, .un])
  refine seq_nx ?_
  show T.all _ ((iRg rng1 (aCons (eVar 1) aNil) [.val (nI n), .val (nI k), .val (.lst (chD n 0)), .un, .un, .un, .un]).bind fun ds => forT _ ds _)
  rw [rng_val (k := k) (var_val rfl) (by omega)]
  refine T.all_mono (fun o ho => ?_) (for_inv (P := fun i ρ => ∃ x3 x4 x5 x6, ρ = [.val (nI n), .val (nI k), .val (.lst (chD n i)), x3, x4, x5, x6]) (k := 0) ⟨.un, .un, .un, .un, rfl⟩ fun i d ρ hi hd hp => ?_)
  · obtain ⟨ρ', rfl, x3, x4, x5, x6, rfl⟩ := ho
    rw [upto_len, Nat.zero_add]
    exact ⟨_, rfl, rfl⟩
  · obtain ⟨x3, x4, x5, x6, rfl⟩ := hp
    have hi2 : i < k := by
      have := (List.getElem?_eq_some_iff.mp hd).1
      rw [upto_len] at this
      omega
    show T.all _ (chB [.val (nI n), .val (nI k), .val (.lst (chD n i)), .val d, x4, x5, x6])
    refine T.all_mono (fun o ho => ?_) (chB_val hn (by omega))
    obtain ⟨x5', rfl⟩ := ho
    exact ⟨_, rfl, _, _, _, _, rfl⟩

/-! The law's own sum of a word. -/
@[irreducible] def lsC : Rho → T D := eCall 2 chF (aCons (eCa bLen (aCons (eVar 0) aNil)) (aCons (eCa bLen (aCons (eVar 1) aNil)) aNil))
section
variable {c : Nat} {ls : List (List Nat)} {rss : List (List Rat)} {x2 x3 x4 x5 x6 : Ent}
theorem pr_take {w : Nat → Nat → Rat} {l : List Nat} {i a : Nat} (h : l[i]? = some a) : pr w 0 (l.take (i + 1)) = pr w 0 (l.take i) * w i a := by
  have hi : i < l.length := (List.getElem?_eq_some_iff.mp h).1
  rw [List.take_add_one, h]
  show pr w 0 (l.take i ++ [a]) = _
  rw [pr_app, List.length_take, Nat.min_eq_left (by omega), Nat.zero_add]
theorem take_all {α : Type} (l : List α) : l.take l.length = l := List.take_length
theorem sumR_one (x : Rat) : sumR [x] = x := by
  show x + 0 = x
  rw [Rat.add_zero]
end

/-! What is drawn: letters, rows, rows as they are passed. -/
/-! a letter -/
/-! a number -/
/-! rows -/
/-! as it is passed -/
/-! Texts, what is alike, the arithmetic of worths. -/
/-! alike -/
theorem same_ints : ∀ l : List Nat, D.sames eRat (l.map nI) (l.map nI) = true
  | [] => rfl
  | a :: l => by
    show ((((a : Int) == (a : Int)) && D.sames eRat (l.map nI) (l.map nI)) = true)
    rw [same_ints l, BEq.rfl]
    rfl
theorem hgt_ints : ∀ l : List Nat, D.hgts (l.map nI) = 0
  | [] => rfl
  | a :: l => by
    show max (D.hgt (nI a)) (D.hgts (l.map nI)) = 0
    rw [hgt_ints l]
    rfl
/-! worths -/
/-! the greatest power -/

/-! Two letters and a row: all comes out right. -/
theorem callK3_all {ρ : Rho} {a b c : Rho → T D} {f : List D → T D} {P : D → Prop} (h : (a ρ).all fun x => (b ρ).all fun y => (c ρ).all fun z => (f [z, y, x]).all P) : (eCallK 3 [2, 1, 0] f (aCons a (aCons b (aCons c aNil))) ρ).all P :=
  T.all_bind.mpr (T.all_bind.mpr (T.all_mono (fun x hx => T.all_bind.mpr (T.all_bind.mpr (T.all_mono (fun y hy => T.all_bind.mpr (T.all_bind.mpr (T.all_mono (fun z hz => hz) hy))) hx))) h))
theorem call2_val {ρ : Rho} {i j : Nat} {x y : D} {f : List D → T D} {P : D → Prop} (hi : ρ[i]? = some (.val x)) (hj : ρ[j]? = some (.val y)) (h : (f [x, y]).all P) : (eCall 2 f (aCons (eVar i) (aCons (eVar j) aNil)) ρ).all P :=
  call2_all (all_eq (var_val hi) (all_eq (var_val hj) h))
theorem var_all {ρ : Rho} {i : Nat} {x : D} (hi : ρ[i]? = some (.val x)) : (eVar i ρ).all fun d => d = x := all_eq (var_val hi) rfl
theorem par_all {ρ : Rho} {i j : Nat} {a b : Rho → T D} {P : Out → Prop} (h : (a ρ).all fun x => (b ρ).all fun y => P (.nx ((ρ.set i (.val x)).set j (.val y)))) : (sPar i j a b ρ).all P :=
  T.all_bind.mpr (T.all_mono (fun x hx => T.all_bind.mpr hx) h)
theorem set_all {ρ : Rho} {i : Nat} {a : Rho → T D} {P : Out → Prop} (h : (a ρ).all fun x => P (.nx (ρ.set i (.val x)))) : (sSet i a ρ).all P := T.all_bind.mpr h
theorem test_all {ρ : Rho} {m : Rho → T D} {b : Bool} (h : (m ρ).all fun d => d = .bl b) : (eTest m ρ).all fun c => c = b :=
  T.all_bind.mpr (T.all_mono (fun d hd => by subst hd; exact rfl) h)
theorem or_false' {ρ : Rho} {a b : Rho → T Bool} (h : (a ρ).all fun c => c = false) (g : (b ρ).all fun c => c = false) : (tOr' a b ρ).all fun c => c = false :=
  T.all_bind.mpr (T.all_mono (fun c hc => by subst hc; exact g) h)
theorem if_no {ρ : Rho} {t : Rho → T Bool} {m1 m2 : Rho → T Out} {P : Out → Prop} (h : (t ρ).all fun c => c = false) (g : (m2 ρ).all P) : (sIf t m1 m2 ρ).all P :=
  T.all_bind.mpr (T.all_mono (fun c hc => by subst hc; exact g) h)
theorem if_yes {ρ : Rho} {t : Rho → T Bool} {m1 m2 : Rho → T Out} {P : Out → Prop} (h : (t ρ).all fun c => c = true) (g : (m1 ρ).all P) : (sIf t m1 m2 ρ).all P :=
  T.all_bind.mpr (T.all_mono (fun c hc => by subst hc; exact g) h)
theorem ne_all {ρ : Rho} {a b : Rho → T D} {f : D → D → T D} {x : D} {r : Bool} (ha : (a ρ).all fun d => d = x) (hb : (b ρ).all fun d => d = x) (h : f x x = .ret (.bl r)) : (eBin f a b ρ).all fun d => d = .bl r :=
  bin_all (T.all_mono (fun d hd => T.all_mono (fun e he => by subst hd he; exact all_eq h rfl) hb) ha)
section
variable {c : Nat} {l m : List Nat} {rs : List Rat} {ds : List D} {v e2 e3 e4 e5 e6 e7 e8 e9 e10 e11 e12 : D} {x2 x3 x4 x5 x6 x7 x8 x9 x10 x11 x12 : Ent}
end

/-! The law comes out true, whatever is drawn. -/
theorem not_all {ρ : Rho} {a : Rho → T Bool} {b : Bool} (h : (a ρ).all fun c => c = b) : (tNot' a ρ).all fun c => c = !b :=
  T.all_bind.mpr (T.all_mono (fun c hc => by subst hc; exact rfl) h)

/-! What is drawn: rows, words; tables as they are passed. -/
/-! a word -/
def LtOk (c : Nat) (l : List Nat) : Prop := l.length = c ∧ ∀ p ∈ l, p ≤ 2
theorem letter_all {c : Nat} (hc : c ≤ 3) : (f__law_letter [.pot, .int (c : Int), .int 2]).all fun d => ∃ l, d = nt l ∧ LtOk c l := by
  refine T.all_bind.mpr ?_
  show T.all _ (m__law_letter [.val .pot, .val (.int (c : Int)), .val (.int 2), .un, .un])
  refine seq_nx (all_eq rfl ⟨_, rfl, seq_nx ?_⟩)
  show T.all _ ((iRg rng1 (aCons (eVar 1) aNil) [.val .pot, .val (.int (c : Int)), .val (.int 2), .own [], .un]).bind fun ds => forT _ ds _)
  rw [rng_val (k := c) (var_val rfl) (by omega)]
  refine T.all_mono (fun o ho => ?_) (for_inv (P := fun k ρ => ∃ (l : List Nat) (a : Ent), ρ = [.val .pot, .val (.int (c : Int)), .val (.int 2), .own (l.map nI), a] ∧ l.length = k ∧ ∀ p ∈ l, p ≤ 2) (k := 0) ⟨[], .un, rfl, rfl, fun x hx => (List.not_mem_nil hx).elim⟩ fun i d ρ hi hd hp => ?_)
  · obtain ⟨ρ', rfl, l, a, rfl, hl, g⟩ := ho
    refine ⟨_, rfl, ?_⟩
    rw [upto_len, Nat.zero_add] at hl
    show T.all _ ((eCa bTuple (aCons (eVar 3) aNil) [.val .pot, .val (.int (c : Int)), .val (.int 2), .val (.lst (l.map nI)), a]).bind fun d => .ret (Out.rt d))
    have s := small_of (ds := l.map nI) (by simp; omega)
    have e : eCa bTuple (aCons (eVar 3) aNil) [.val .pot, .val (.int (c : Int)), .val (.int 2), .val (.lst (l.map nI)), a] = .ret (nt l) := by
      simp only [eCa, aCons, aNil, eVar, List.getElem?_cons_succ, List.getElem?_cons_zero, T.bind, bTuple, s, cond]
      rfl
    rw [e]
    exact ⟨l, rfl, hl, g⟩
  · obtain ⟨l, a, rfl, hl, g⟩ := hp
    have hi2 : i < c := by
      have := (List.getElem?_eq_some_iff.mp hd).1
      rw [upto_len] at this
      omega
    show T.all _ (sApp 3 (eCall 2 f__law_draw (aCons (eVar 0) (aCons (eBin opAdd (eVar 2) (eC (.int 1))) aNil))) [.val .pot, .val (.int (c : Int)), .val (.int 2), .own (l.map nI), .val d])
    refine app_all (i := 3) rfl (by simp; omega) (all_dr (drawE (n := 3) rfl rfl (by decide) (by decide)) fun p hp => ?_)
    refine ⟨_, rfl, l ++ [p], _, by rw [List.map_append]; rfl, by simp [hl], fun y hy => ?_⟩
    rcases List.mem_append.mp hy with z | z
    · exact g y z
    · rw [List.mem_singleton.mp z]; omega
theorem word_all {c n : Nat} (hc : c ≤ 3) (hn : n ≤ 100) : (f__law_word [.pot, .int (c : Int), .int (n : Int)]).all fun d => ∃ ls, d = nw ls ∧ ls.length = n ∧ ∀ l ∈ ls, LtOk c l := by
  refine T.all_bind.mpr ?_
  show T.all _ (m__law_word [.val .pot, .val (.int (c : Int)), .val (.int (n : Int)), .un, .un])
  refine seq_nx (all_eq rfl ⟨_, rfl, seq_nx ?_⟩)
  show T.all _ ((iRg rng1 (aCons (eVar 2) aNil) [.val .pot, .val (.int (c : Int)), .val (.int (n : Int)), .own [], .un]).bind fun ds => forT _ ds _)
  rw [rng_val (k := n) (var_val rfl) (by omega)]
  refine T.all_mono (fun o ho => ?_) (for_inv (P := fun k ρ => ∃ (ls : List (List Nat)) (a : Ent), ρ = [.val .pot, .val (.int (c : Int)), .val (.int (n : Int)), .own (ls.map nt), a] ∧ ls.length = k ∧ ∀ l ∈ ls, LtOk c l) (k := 0) ⟨[], .un, rfl, rfl, fun x hx => (List.not_mem_nil hx).elim⟩ fun i d ρ hi hd hp => ?_)
  · obtain ⟨ρ', rfl, l, a, rfl, hl, g⟩ := ho
    refine ⟨_, rfl, ?_⟩
    rw [upto_len, Nat.zero_add] at hl
    show T.all _ ((eCa bTuple (aCons (eVar 3) aNil) [.val .pot, .val (.int (c : Int)), .val (.int (n : Int)), .val (.lst (l.map nt)), a]).bind fun d => .ret (Out.rt d))
    have s := small_of (ds := l.map nt) (by simp; omega)
    have e : eCa bTuple (aCons (eVar 3) aNil) [.val .pot, .val (.int (c : Int)), .val (.int (n : Int)), .val (.lst (l.map nt)), a] = .ret (nw l) := by
      simp only [eCa, aCons, aNil, eVar, List.getElem?_cons_succ, List.getElem?_cons_zero, T.bind, bTuple, s, cond]
      rfl
    rw [e]
    exact ⟨l, rfl, hl, g⟩
  · obtain ⟨l, a, rfl, hl, g⟩ := hp
    have hi2 : i < n := by
      have := (List.getElem?_eq_some_iff.mp hd).1
      rw [upto_len] at this
      omega
    show T.all _ (sApp 3 (eCall 3 f__law_letter (aCons (eVar 0) (aCons (eVar 1) (aCons (eC (.int 2)) aNil)))) [.val .pot, .val (.int (c : Int)), .val (.int (n : Int)), .own (l.map nt), .val d])
    refine app_all (i := 3) rfl (by simp; omega) (call3_all (all_eq (var_val rfl) (all_eq (var_val rfl) (all_eq (a := .int 2) rfl (T.all_mono (fun x hx => ?_) (letter_all hc))))))
    obtain ⟨p, rfl, sp⟩ := hx
    refine ⟨_, rfl, l ++ [p], _, by rw [List.map_append]; rfl, by simp [hl], fun y hy => ?_⟩
    rcases List.mem_append.mp hy with z | z
    · exact g y z
    · rw [List.mem_singleton.mp z]; exact sp
/-! a table -/
/-! The law's def over a table and a word, by parts. -/
/-! alike -/
theorem same_nt (l : List Nat) : D.same eRat (nt l) (nt l) = true := same_ints l
theorem same_nts : ∀ ls : List (List Nat), D.sames eRat (ls.map nt) (ls.map nt) = true
  | [] => rfl
  | l :: ls => by
    show (D.same eRat (nt l) (nt l) && D.sames eRat (ls.map nt) (ls.map nt)) = true
    rw [same_nt, same_nts ls]
    rfl
theorem same_nw (ls : List (List Nat)) : D.same eRat (nw ls) (nw ls) = true := same_nts ls
theorem hgt_nt1 (l : List Nat) : D.hgt (nt l) = 1 := by
  show D.hgts (l.map nI) + 1 = 1
  rw [hgt_ints]
theorem hgt_nts : ∀ ls : List (List Nat), D.hgts (ls.map nt) ≤ 1
  | [] => Nat.zero_le _
  | l :: ls => by
    show max (D.hgt (nt l)) (D.hgts (ls.map nt)) ≤ 1
    rw [hgt_nt1]
    exact Nat.max_le.mpr ⟨Nat.le_refl _, hgt_nts ls⟩
theorem hgt_nw (ls : List (List Nat)) : D.hgt (nw ls) ≤ 2 := Nat.succ_le_succ (hgt_nts ls)
/-! rules -/
theorem callK2_all {ρ : Rho} {a b : Rho → T D} {f : List D → T D} {P : D → Prop} (h : (a ρ).all fun x => (b ρ).all fun y => (f [y, x]).all P) : (eCallK 2 [1, 0] f (aCons a (aCons b aNil)) ρ).all P :=
  T.all_bind.mpr (T.all_bind.mpr (T.all_mono (fun x hx => T.all_bind.mpr (T.all_bind.mpr (T.all_mono (fun y hy => hy) hx))) h))
theorem lcall2_all {ρ : Rho} {a b : Rho → T D} {f : List D → T (List D)} {P : List D → Prop} (h : (a ρ).all fun x => (b ρ).all fun y => (f [x, y]).all P) : (lCallF 2 f (aCons a (aCons b aNil)) ρ).all P :=
  T.all_bind.mpr (T.all_bind.mpr (T.all_mono (fun x hx => T.all_bind.mpr (T.all_bind.mpr (T.all_mono (fun y hy => hy) hx))) h))
theorem lcallK2_all {ρ : Rho} {a b : Rho → T D} {f : List D → T (List D)} {P : List D → Prop} (h : (a ρ).all fun x => (b ρ).all fun y => (f [y, x]).all P) : (lCallKF 2 [1, 0] f (aCons a (aCons b aNil)) ρ).all P :=
  T.all_bind.mpr (T.all_bind.mpr (T.all_mono (fun x hx => T.all_bind.mpr (T.all_bind.mpr (T.all_mono (fun y hy => hy) hx))) h))
theorem eL_all {ρ : Rho} {ml : Rho → T (List D)} {P : D → Prop} (h : (ml ρ).all fun ds => P (.lst ds)) : (eL ml ρ).all P := T.all_bind.mpr h
theorem peek_all {ρ : Rho} {i : Nat} {ds : List D} {b : Rho → T D} {f : D → D → T D} {r : Bool} (h : ρ[i]? = some (.own ds)) (hb : (b ρ).all fun d => d = .lst ds) (e : f (.lst ds) (.lst ds) = .ret (.bl r)) : (ePeek f i b ρ).all fun d => d = .bl r := by
  unfold ePeek
  rw [h]
  refine T.all_bind.mpr (T.all_mono (fun d hd => ?_) hb)
  subst hd
  refine T.all_bind.mpr (all_eq e ?_)
  rfl
/-! The parts of the law's def, one by one. -/
section
variable {c : Nat} {ls : List (List Nat)} {rss qss : List (List Rat)} {e4 e5 e6 e7 e8 e9 e10 e11 e12 e13 e14 e15 e16 : Ent}
theorem len_rows {ρ : Rho} {i : Nat} (hi : ρ[i]? = some (.val (.lst (rss.map rowP)))) : eCa bLen (aCons (eVar i) aNil) ρ = .ret (nI rss.length) := by
  have e : bLen [.lst (rss.map rowP)] = .ret (nI rss.length) := by
    show T.ret (D.int ((rss.map rowP).length : Int)) = _
    rw [List.length_map]
    rfl
  simp only [eCa, aCons, aNil, eVar, hi, T.bind, e]
theorem succ_val {ρ : Rho} {i n : Nat} (hi : ρ[i]? = some (.val (nI n))) : eBin opAdd (eVar i) (eC (.int 1)) ρ = .ret (.int ((n + 1 : Nat) : Int)) := by
  unfold nI at hi
  simp only [eBin, eVar, eC, hi, T.bind, opAdd]
  rw [show ((n + 1 : Nat) : Int) = (n : Int) + 1 by omega]
end

/-! The cuts' products, joined rows; the law's def over a table and a word comes out true. -/
theorem fb_near : ∀ k, k ≤ 4 → ∀ a, a ≤ 5 → fb k a ≤ 700 := by decide
theorem fb_far : ∀ k, k ≤ 4 → ∀ a, a ≤ 2 → fb k a ≤ 70 := by decide
section
variable {c : Nat} {ls : List (List Nat)} {rss qss : List (List Rat)} {e4 e5 e6 e7 e8 e9 e10 e11 e12 e13 e14 e15 e16 : Ent}
end

/-! The law comes out true, whatever is drawn. -/
@[irreducible] def woF : List D → T D := f__law_word
theorem wo_all {c n : Nat} (hc : c ≤ 3) (hn : n ≤ 100) : T.all (fun d => ∃ ls, d = nw ls ∧ ls.length = n ∧ ∀ l ∈ ls, LtOk c l) (woF [.pot, .int (c : Int), .int (n : Int)]) := by
  unfold woF
  exact word_all hc hn
section
variable {c : Nat} {ls : List (List Nat)} {rss : List (List Rat)} {r0 : List Rat} {x1 x2 x3 x4 x5 : Ent}
end
end Pd

namespace Pd
open PySem L2 PySem.W PySem.Spec PyProof.Rows
theorem range_snoc {α : Type} (x : Nat → α) (i : Nat) : (List.range (i + 1)).map x = (List.range i).map x ++ [x i] := by
  rw [List.range_succ, List.map_append]
  rfl
theorem ll_perm5 : ((List.range 5).all fun i => (List.range 3).all fun j => decide (5 < i + j) || (lac sx sy sxy i j).isPerm (llg i j)) = true := by decide +kernel
theorem ll_ok5 {i j : Nat} (hi : i ≤ 4) (hj : j ≤ 2) (h : i + j ≤ 5) : (lac sx sy sxy i j).Perm (llg i j) := by
  have q := List.all_eq_true.mp (List.all_eq_true.mp ll_perm5 i (List.mem_range.mpr (by omega))) j (List.mem_range.mpr (by omega))
  rw [decide_eq_false (by omega), Bool.false_or] at q
  exact List.isPerm_iff.mp q

/-! Lacings of two words; dicts whose keys are words. -/
abbrev Wd' := List (List Nat)
def ltA (a : Wd') (i : Nat) : List Nat := a.getD i []
def apS (a b : Wd') : Sl → List Nat
  | (some i, none) => ltA a i
  | (none, some j) => ltA b j
  | (some i, some j) => addL (ltA a i) (ltA b j)
  | (none, none) => []
/-- the lacings, by steps, and by the law's own choices -/
def Lw (a b : Wd') : List Wd' := lac (ltA a) (ltA b) (fun i j => addL (ltA a i) (ltA b j)) a.length b.length
def Ll (a b : Wd') : List Wd' := (llg a.length b.length).map (List.map (apS a b))
theorem lac_ap (a b : Wd') (i j : Nat) : lac (ltA a) (ltA b) (fun i j => addL (ltA a i) (ltA b j)) i j = (lac sx sy sxy i j).map (List.map (apS a b)) :=
  lac_map (apS a b) sx sy sxy i j
theorem addL_comm (l m : List Nat) : addL m l = addL l m := by
  unfold addL
  exact List.zipWith_comm_of_comm fun a b => Nat.add_comm a b
theorem ap_flip (a b : Wd') : ∀ s : Sl, apS b a s = apS a b (flipS s)
  | (some i, none) => rfl
  | (none, some j) => rfl
  | (some i, some j) => addL_comm _ _
  | (none, none) => rfl
theorem Lw_ll {a b : Wd'} (ha : a.length ≤ 4) (hb : b.length ≤ 2) (hs : a.length + b.length ≤ 5) : (Lw a b).Perm (Ll a b) := by
  unfold Lw Ll
  rw [lac_ap]
  exact (ll_ok5 ha hb hs).map _
theorem Lw_ll2 {a b : Wd'} (ha : a.length ≤ 3) (hb : b.length ≤ 2) : (Lw b a).Perm (Ll a b) := by
  unfold Lw Ll
  rw [lac_ap]
  have e : (lac sx sy sxy b.length a.length).map (List.map (apS b a)) = ((lac sx sy sxy b.length a.length).map (List.map flipS)).map (List.map (apS a b)) := by
    rw [List.map_map]
    refine List.map_congr_left fun l _ => ?_
    rw [Function.comp_apply, List.map_map]
    exact List.map_congr_left fun s _ => ap_flip a b s
  rw [e]
  exact (ll_ok2 ha hb).map _
theorem range_lt (a : Wd') : (List.range a.length).map (ltA a) = a := by
  refine List.ext_getElem (by simp) fun i h1 h2 => ?_
  have hi : i < a.length := by simpa using h1
  simp [ltA, List.getD, hi]
theorem range_take (a : Wd') {j : Nat} (h : j ≤ a.length) : (List.range j).map (ltA a) = a.take j := by
  refine List.ext_getElem (by simp; omega) fun i h1 h2 => ?_
  have hi : i < j := by simpa using h1
  simp [ltA, List.getD, show i < a.length by omega]
/-! what is so of all letters of lacings -/
theorem lac_all {α : Type} {x y : Nat → α} {xy : Nat → Nat → α} {P : α → Prop} {I J : Nat} (hx : ∀ i, i < I → P (x i)) (hy : ∀ j, j < J → P (y j)) (hxy : ∀ i j, i < I → j < J → P (xy i j)) : ∀ i j, i ≤ I → j ≤ J → ∀ u ∈ lac x y xy i j, u.length ≤ i + j ∧ (0 < i + j → u ≠ []) ∧ ∀ l ∈ u, P l
  | 0, j, _, hj => fun u hu => by
    rw [List.mem_singleton.mp hu]
    refine ⟨by simp, fun h e => ?_, fun l hl => ?_⟩
    · have := congrArg List.length e
      simp at this
      omega
    · obtain ⟨k, hk, rfl⟩ := List.mem_map.mp hl
      exact hy k (by have := List.mem_range.mp hk; omega)
  | i + 1, 0, hi, hj => fun u hu => by
    obtain ⟨v, hv, rfl⟩ := List.mem_map.mp (show u ∈ (lac x y xy i 0).map (· ++ [x i]) from hu)
    obtain ⟨a, _, b⟩ := lac_all hx hy hxy i 0 (by omega) hj v hv
    refine ⟨by simp; omega, fun _ => by simp, fun l hl => ?_⟩
    rcases List.mem_append.mp hl with z | z
    · exact b l z
    · rw [List.mem_singleton.mp z]; exact hx i (by omega)
  | i + 1, j + 1, hi, hj => fun u hu => by
    have e : lac x y xy (i + 1) (j + 1) = (lac x y xy i (j + 1)).map (· ++ [x i]) ++ ((lac x y xy (i + 1) j).map (· ++ [y j]) ++ (lac x y xy i j).map (· ++ [xy i j])) := rfl
    rw [e] at hu
    have fin : ∀ {v : List α} {l : α} {n : Nat}, v.length ≤ n → n + 1 ≤ i + 1 + (j + 1) → (∀ z ∈ v, P z) → P l → (v ++ [l]).length ≤ i + 1 + (j + 1) ∧ (0 < i + 1 + (j + 1) → v ++ [l] ≠ []) ∧ ∀ z ∈ v ++ [l], P z := fun {v l n} a b c d => by
      refine ⟨by simp; omega, fun _ => by simp, fun z hz => ?_⟩
      rcases List.mem_append.mp hz with q | q
      · exact c z q
      · rw [List.mem_singleton.mp q]; exact d
    rcases List.mem_append.mp hu with h | h
    · obtain ⟨v, hv, rfl⟩ := List.mem_map.mp h
      obtain ⟨a, _, b⟩ := lac_all hx hy hxy i (j + 1) (by omega) hj v hv
      exact fin a (by omega) b (hx i (by omega))
    · rcases List.mem_append.mp h with h | h
      · obtain ⟨v, hv, rfl⟩ := List.mem_map.mp h
        obtain ⟨a, _, b⟩ := lac_all hx hy hxy (i + 1) j hi (by omega) v hv
        exact fin a (by omega) b (hy j (by omega))
      · obtain ⟨v, hv, rfl⟩ := List.mem_map.mp h
        obtain ⟨a, _, b⟩ := lac_all hx hy hxy i j (by omega) (by omega) v hv
        exact fin a (by omega) b (hxy i j (by omega) (by omega))
/-! keys -/
def kL (l : List Nat) : NestedKey := .tup (l.map fun n : Nat => .num n)
def kW (w : Wd') : NestedKey := .tup (w.map kL)
theorem nks_ints : ∀ l : List Nat, D.nks (l.map nI) = some (l.map fun n : Nat => .num n)
  | [] => rfl
  | n :: l => by
    show (match D.nks (l.map nI) with | none => none | some ks => some (NestedKey.num n :: ks)) = _
    rw [nks_ints l]
    rfl
theorem nk_nt (l : List Nat) : D.nk (nt l) = some (kL l) := by
  show (match D.nks (l.map nI) with | some ks => some (NestedKey.tup ks) | none => none) = _
  rw [nks_ints]
  rfl
theorem nks_nts : ∀ w : Wd', D.nks (w.map nt) = some (w.map kL)
  | [] => rfl
  | l :: w => by
    show (match D.nk (nt l) with | none => none | some k => match D.nks (w.map nt) with | none => none | some ks => some (k :: ks)) = _
    rw [nk_nt, nks_nts w]
    rfl
theorem nk_nw (w : Wd') : D.nk (nw w) = some (kW w) := by
  show (match D.nks (w.map nt) with | some ks => some (NestedKey.tup ks) | none => none) = _
  rw [nks_nts]
  rfl
theorem dep_ints : ∀ l : List Nat, NestedKey.depthAll (l.map fun n : Nat => .num n) = 0
  | [] => rfl
  | n :: l => by
    show max 0 (NestedKey.depthAll (l.map fun n : Nat => .num n)) = 0
    rw [dep_ints l]
    rfl
theorem dep_kLs : ∀ w : Wd', NestedKey.depthAll (w.map kL) ≤ 1
  | [] => Nat.zero_le _
  | l :: w => by
    show max (NestedKey.depthAll (l.map fun n : Nat => .num n) + 1) (NestedKey.depthAll (w.map kL)) ≤ 1
    rw [dep_ints l]
    exact Nat.max_le.mpr ⟨Nat.le_refl _, dep_kLs w⟩
theorem key_nw {α : Type} (w : Wd') (f : NestedKey → T α) : withKey (nw w) f = f (kW w) := by
  have e : keyD (nw w) = some (kW w) := by
    have n := nk_nw w
    unfold nw at n
    unfold keyD nw
    dsimp only
    rw [n]
    have d : (kW w).depth ≤ 8 := by
      show NestedKey.depthAll (w.map kL) + 1 ≤ 8
      have := dep_kLs w
      omega
    dsimp only
    rw [decide_eq_true d]
    rfl
  unfold withKey
  rw [e]
theorem kL_inj : ∀ {l m : List Nat}, (l.map fun n : Nat => NestedKey.num n) = m.map (fun n : Nat => NestedKey.num n) → l = m
  | [], [], _ => rfl
  | [], _ :: _, h => by cases h
  | _ :: _, [], h => by cases h
  | a :: l, b :: m, h => by
    injection h with h1 h2
    injection h1 with h1
    have e : a = b := by omega
    rw [e, kL_inj h2]
theorem kWs_inj : ∀ {v w : Wd'}, v.map kL = w.map kL → v = w
  | [], [], _ => rfl
  | [], _ :: _, h => by cases h
  | _ :: _, [], h => by cases h
  | a :: l, b :: m, h => by
    injection h with h1 h2
    injection h1 with h1
    rw [kL_inj h1, kWs_inj h2]
theorem has_nw (k w : Wd') : hasK (kW k) (nw w) = decide (w = k) := by
  rw [hasK_eq (nk_nw w)]
  refine decide_eq_decide.mpr ⟨fun h => ?_, fun h => by rw [h]⟩
  injection h with h
  exact kWs_inj h
/-- a dict of words -/
def dD (kv : List (Wd' × Nat)) : List (D × D) := kv.map fun p => (nw p.1, nI p.2)
theorem at_get (k : Wd') : ∀ kv : List (Wd' × Nat), (dAt (dD kv) (kW k)).getD (.int 0) = nI (getW kv k)
  | [] => rfl
  | p :: r => by
    show (cond (hasK (kW k) (nw p.1)) (some (nI p.2)) (dAt (dD r) (kW k))).getD (.int 0) = nI (if p.1 = k then p.2 else getW r k)
    rw [has_nw]
    by_cases h : p.1 = k
    · rw [decide_eq_true h, if_pos h]
      rfl
    · rw [decide_eq_false h, if_neg h]
      exact at_get k r
theorem at_some {k : Wd'} : ∀ {kv : List (Wd' × Nat)}, k ∈ kv.map (·.1) → dAt (dD kv) (kW k) = some (nI (getW kv k))
  | [], h => (List.not_mem_nil h).elim
  | p :: r, h => by
    show cond (hasK (kW k) (nw p.1)) (some (nI p.2)) (dAt (dD r) (kW k)) = some (nI (if p.1 = k then p.2 else getW r k))
    rw [has_nw]
    by_cases e : p.1 = k
    · rw [decide_eq_true e, if_pos e]
      rfl
    · rw [decide_eq_false e, if_neg e]
      rcases List.mem_cons.mp h with z | z
      · exact absurd z.symm e
      · exact at_some z
theorem put_D (k : Wd') (n : Nat) : ∀ kv : List (Wd' × Nat), dPut (dD kv) (kW k) (nw k) (nI n) = dD (putW kv k n)
  | [] => rfl
  | p :: r => by
    show cond (hasK (kW k) (nw p.1)) ((nw p.1, nI n) :: dD r) ((nw p.1, nI p.2) :: dPut (dD r) (kW k) (nw k) (nI n)) = dD (if p.1 = k then (p.1, n) :: r else p :: putW r k n)
    rw [has_nw]
    by_cases h : p.1 = k
    · rw [decide_eq_true h, if_pos h]
      rfl
    · rw [decide_eq_false h, if_neg h, put_D k n r]
      rfl
/-- found[k] = found.get(k, 0) + n -/
theorem put_add {ρ : Rho} {i j : Nat} {kv : List (Wd' × Nat)} {k : Wd'} {n : Nat} {m : Rho → T D} (hi : ρ[i]? = some (.ownD (dD kv))) (hj : ρ[j]? = some (.val (nw k))) (hm : m ρ = .ret (nI n)) (l : kv.length ≤ 100000) : sPut i (eVar j) (eBin opAdd (getOwn i (eVar j) (eC (.int 0))) m) ρ = .ret (.nx (ρ.set i (.ownD (dD (addW kv k n))))) := by
  have g : getOwn i (eVar j) (eC (.int 0)) ρ = .ret (nI (getW kv k)) := by
    simp only [getOwn, hi, eVar, hj, eC, T.bind, key_nw, at_get]
  have a : eBin opAdd (getOwn i (eVar j) (eC (.int 0))) m ρ = .ret (nI (getW kv k + n)) := by
    simp only [eBin, g, hm, T.bind]
    show T.ret (D.int ((getW kv k : Int) + (n : Int))) = _
    unfold nI
    rw [Int.natCast_add]
  have sm : decide ((dD kv).length ≤ 100000) = true := decide_eq_true (by unfold dD; rw [List.length_map]; exact l)
  simp only [sPut, hi, a, eVar, hj, T.bind, key_nw, sm, cond, put_D]
  rfl

/-! The program's lacings: the dicts count them. -/
theorem both_val {l m : List Nat} (hl : l.length ≤ 1000) : f_both_letters [nt l, nt m] = .ret (nt (addL l m)) := by
  have t := tuple_add (ρ := [.val (nt l), .val (nt m), .un, .un]) (i := 2) (j := 3) (p := 0) (q := 1) (me := eBin opAdd (eVar 2) (eVar 3)) (l := l) (m := m) rfl rfl hl fun a b => rfl
  show T.bind (m_both_letters [.val (nt l), .val (nt m), .un, .un]) _ = _
  unfold m_both_letters sRet
  rw [t]
  rfl
/-- dicts with letters behind them -/
inductive PL : List D → List Wd' → Prop
  | nil : PL [] []
  | cons {kv : List (Wd' × Nat)} {m l : List Wd'} {x : List Nat} {ds : List D} : Rep kv m → PL ds l → PL (.tup [.dic (dD kv), nt x] :: ds) (m.map (· ++ [x]) ++ l)
@[irreducible] def wiB : Rho → T Out := bSeq (sSet 6 (eBin opAdd (eVar 4) (eTup (aCons (eVar 3) aNil)))) (sPut 1 (eVar 6) (eBin opAdd (getOwn 1 (eVar 6) (eC (.int 0))) (eVar 5)))
@[irreducible] def woB : Rho → T Out := sFor (iItems (eVar 2)) (gTp 2 (gsCons (gNm 4) (gsCons (gNm 5) gsNil))) wiB
theorem wl_eq' : m__with_letter = bSeq (sOwnD 1) (bSeq (sFor (iLst (eVar 0)) (gTp 2 (gsCons (gNm 2) (gsCons (gNm 3) gsNil))) woB) (bFreezeD 1 (sRet (eVar 1)))) := by
  unfold m__with_letter woB wiB
  rfl
section
variable {x0 x2 x4 x5 x6 : Ent} {kv d : List (Wd' × Nat)} {l m : List Wd'} {x : List Nat}
theorem wiB_val {w : Wd'} {n : Nat} (hw : w.length ≤ 1000) (hk : kv.length ≤ 100000) : wiB [x0, .ownD (dD kv), x2, .val (nt x), .val (nw w), .val (nI n), x6] = .ret (.nx [x0, .ownD (dD (addW kv (w ++ [x]) n)), x2, .val (nt x), .val (nw w), .val (nI n), .val (nw (w ++ [x]))]) := by
  have s1 : small [nt x] = true := small1 _
  have s2 : small (w.map nt ++ [nt x]) = true := small_of (by simp; omega)
  have a : eBin opAdd (eVar 4) (eTup (aCons (eVar 3) aNil)) [x0, .ownD (dD kv), x2, .val (nt x), .val (nw w), .val (nI n), x6] = .ret (nw (w ++ [x])) := by
    have t : eTup (aCons (eVar 3) aNil) [x0, .ownD (dD kv), x2, .val (nt x), .val (nw w), .val (nI n), x6] = .ret (.tup [nt x]) := by
      simp only [eTup, aCons, aNil, eVar, List.getElem?_cons_succ, List.getElem?_cons_zero, T.bind, s1, cond]
    show ((eVar 4 _).bind fun u => (eTup (aCons (eVar 3) aNil) _).bind fun v => opAdd u v) = _
    rw [t]
    show opAdd (.tup (w.map nt)) (.tup [nt x]) = _
    unfold opAdd
    dsimp only
    rw [s2]
    unfold nw
    rw [List.map_append]
    rfl
  have s : sSet 6 (eBin opAdd (eVar 4) (eTup (aCons (eVar 3) aNil))) [x0, .ownD (dD kv), x2, .val (nt x), .val (nw w), .val (nI n), x6] = .ret (.nx [x0, .ownD (dD kv), x2, .val (nt x), .val (nw w), .val (nI n), .val (nw (w ++ [x]))]) := by
    unfold sSet
    rw [a]
    rfl
  have p := put_add (ρ := [x0, .ownD (dD kv), x2, .val (nt x), .val (nw w), .val (nI n), .val (nw (w ++ [x]))]) (i := 1) (j := 6) (kv := kv) (k := w ++ [x]) (n := n) (m := eVar 5) rfl rfl rfl hk
  unfold wiB
  show (T.bind _ _) = _
  rw [s]
  exact p
theorem ex_take {i : Nat} {p : Wd' × Nat} (h : d[i]? = some p) : exW (d.take (i + 1)) = exW (d.take i) ++ List.replicate p.2 p.1 := by
  unfold exW
  rw [List.take_add_one, h]
  simp
theorem woB_all (hr : Rep kv l) (hd : Rep d m) (hw : ∀ w ∈ m, w.length ≤ 100) (hb : l.length + m.length ≤ 1000) : T.all (fun o => ∃ kv' y4 y5 y6, o = .nx [x0, .ownD (dD kv'), .val (.dic (dD d)), .val (nt x), y4, y5, y6] ∧ Rep kv' (l ++ m.map (· ++ [x]))) (woB [x0, .ownD (dD kv), .val (.dic (dD d)), .val (nt x), x4, x5, x6]) := by
  have tot : (exW d).length = m.length := hd.pm.length_eq
  have upto_le : ∀ i, (exW (d.take i)).length ≤ m.length := fun i => by
    rw [← tot]
    have e : exW d = exW (d.take i) ++ exW (d.drop i) := by
      unfold exW
      rw [← List.flatMap_append, List.take_append_drop]
    rw [e, List.length_append]
    exact Nat.le_add_right _ _
  unfold woB
  show T.all _ (forT _ ((dD d).map fun p => .tup [p.1, p.2]) [x0, .ownD (dD kv), .val (.dic (dD d)), .val (nt x), x4, x5, x6])
  refine T.all_mono (fun o ho => ?_) (for_inv (P := fun i ρ => ∃ kv' y4 y5 y6, ρ = [x0, .ownD (dD kv'), .val (.dic (dD d)), .val (nt x), y4, y5, y6] ∧ Rep kv' (l ++ (exW (d.take i)).map (· ++ [x]))) (k := 0) ⟨kv, x4, x5, x6, rfl, by simpa [exW] using hr⟩ fun i e ρ hi he hp => ?_)
  · obtain ⟨ρ', rfl, kv', y4, y5, y6, rfl, r⟩ := ho
    have ln : ((dD d).map fun p : D × D => D.tup [p.1, p.2]).length = d.length := by unfold dD; simp
    rw [ln, Nat.zero_add, List.take_length] at r
    exact ⟨kv', y4, y5, y6, rfl, r.nd, r.pos, r.pm.trans ((List.Perm.refl _).append (hd.pm.map _))⟩
  · obtain ⟨kv', y4, y5, y6, rfl, r⟩ := hp
    rw [Nat.sub_zero, List.getElem?_map] at he
    unfold dD at he
    rw [List.getElem?_map, Option.map_map] at he
    obtain ⟨p, hp, rfl⟩ := Option.map_eq_some_iff.mp he
    have pm : p ∈ d := List.mem_of_getElem? hp
    have pw : p.1 ∈ m := (hd.mem p.1).mp (List.mem_map.mpr ⟨p, pm, rfl⟩)
    have kl := r.len
    have ul := upto_le i
    rw [List.length_append, List.length_map] at kl
    show T.all _ (wiB [x0, .ownD (dD kv'), .val (.dic (dD d)), .val (nt x), .val (nw p.1), .val (nI p.2), y6])
    rw [wiB_val (by have := hw _ pw; omega) (by omega)]
    refine ⟨_, rfl, _, _, _, _, rfl, ?_⟩
    have a := r.add (p.1 ++ [x]) (hd.pos p pm)
    rw [List.append_assoc] at a
    rw [ex_take hp, List.map_append, List.map_replicate]
    exact a
theorem wloop : ∀ {ds : List D} {l : List Wd'} {kv : List (Wd' × Nat)} {l0 : List Wd'} {y2 y3 y4 y5 y6 : Ent}, PL ds l → Rep kv l0 → (∀ w ∈ l, w.length ≤ 101) → l0.length + l.length ≤ 1000 → T.all (fun o => ∃ kv' z2 z3 z4 z5 z6, o = .nx [x0, .ownD (dD kv'), z2, z3, z4, z5, z6] ∧ Rep kv' (l0 ++ l)) (forT (fun d ρ => (gTp 2 (gsCons (gNm 2) (gsCons (gNm 3) gsNil)) d ρ).bind woB) ds [x0, .ownD (dD kv), y2, y3, y4, y5, y6])
  | _, _, kv, l0, y2, y3, y4, y5, y6, .nil, hr, _, _ => ⟨kv, y2, y3, y4, y5, y6, rfl, by rw [List.append_nil]; exact hr⟩
  | _, _, kv, l0, y2, y3, y4, y5, y6, .cons (kv := d) (m := m) (l := l) (x := x) (ds := ds) hd t, hr, hw, hb => by
    rw [List.length_append, List.length_map] at hb
    refine forT_cons (d := .tup [.dic (dD d), nt x]) (ds := ds) ?_
    show T.all _ (woB [x0, .ownD (dD kv), .val (.dic (dD d)), .val (nt x), y4, y5, y6])
    refine T.all_mono (fun o ho => ?_) (woB_all hr hd (fun w h => by
      have := hw (w ++ [x]) (List.mem_append_left _ (List.mem_map.mpr ⟨w, h, rfl⟩))
      simp at this
      omega) (by omega))
    obtain ⟨kv', z4, z5, z6, rfl, r⟩ := ho
    refine ⟨_, rfl, ?_⟩
    have ih := wloop (y2 := .val (.dic (dD d))) (y3 := .val (nt x)) (y4 := z4) (y5 := z5) (y6 := z6) t r (fun w h => hw w (List.mem_append_right _ h)) (by rw [List.length_append, List.length_map]; omega)
    rw [List.append_assoc] at ih
    exact ih
@[irreducible] def wlF : List D → T D := f__with_letter
theorem wl_all {ds : List D} {l : List Wd'} (h : PL ds l) (hw : ∀ w ∈ l, w.length ≤ 101) (hb : l.length ≤ 1000) : T.all (fun d => ∃ kv, d = .dic (dD kv) ∧ Rep kv l) (wlF [.lst ds]) := by
  unfold wlF f__with_letter runB
  rw [wl_eq']
  have first : sOwnD 1 [.val (.lst ds), .un, .un, .un, .un, .un, .un] = .ret (.nx [.val (.lst ds), .ownD (dD []), .un, .un, .un, .un, .un]) := rfl
  refine T.all_bind.mpr (seq_nx (all_eq first ⟨_, rfl, seq_nx ?_⟩))
  show T.all _ (forT (fun d ρ => (gTp 2 (gsCons (gNm 2) (gsCons (gNm 3) gsNil)) d ρ).bind woB) ds [.val (.lst ds), .ownD (dD []), .un, .un, .un, .un, .un])
  refine T.all_mono (fun o ho => ?_) (wloop (x0 := .val (.lst ds)) h Rep.nil hw (by simpa using hb))
  obtain ⟨kv, z2, z3, z4, z5, z6, rfl, r⟩ := ho
  exact ⟨_, rfl, kv, rfl, r⟩
end
/-! a line of dicts -/
structure LineOk (ds : List D) (n : Nat) (L : Nat → List Wd') : Prop where
  len : ds.length = n
  at_ : ∀ j, j < n → ∃ kv, ds[j]? = some (.dic (dD kv)) ∧ Rep kv (L j)
theorem ix_at {ds : List D} {j : Nat} {d : D} (h : ds[j]? = some d) : ixL ds (.int (j : Int)) = .ret d := by
  have hj := (List.getElem?_eq_some_iff.mp h).1
  unfold ixL
  dsimp only
  have e : atI ds (j : Int) = some d := by
    unfold atI ixN
    rw [if_pos (by omega), if_pos (by omega)]
    show ds[(j : Int).toNat]? = _
    rw [Int.toNat_natCast, h]
  rw [e]
@[irreducible] def nlB : Rho → T Out := bSeq (sSet 6 (eCall 2 f_both_letters (aCons (eVar 1) (aCons (eVar 5) aNil)))) (sApp 3 (eCall 1 wlF (aCons (eL (lLst (aCons (eTup (aCons (eBin ixD (eVar 0) (eBin opAdd (eVar 4) (eC (.int 1)))) (aCons (eVar 1) aNil))) (aCons (eTup (aCons (ixOwn 3 (eVar 4)) (aCons (eVar 5) aNil))) (aCons (eTup (aCons (eBin ixD (eVar 0) (eVar 4)) (aCons (eVar 6) aNil))) aNil))))) aNil)))
@[irreducible] def nl1 : Rho → T Out := sOwn 3 (lLst (aCons (eCall 1 wlF (aCons (eL (lLst (aCons (eTup (aCons (eBin ixD (eVar 0) (eC (.int 0))) (aCons (eVar 1) aNil))) aNil))) aNil)) aNil))
theorem nl_eq : m__next_line = bSeq nl1 (bSeq (sFor (iRg enumT (aCons (eVar 2) aNil)) (gTp 2 (gsCons (gNm 4) (gsCons (gNm 5) gsNil))) nlB) (bFreeze 3 (sRet (eVar 3)))) := by
  unfold m__next_line nlB nl1 wlF
  rfl
section
variable {ds : List D} {b : Wd'} {x : List Nat} {L : Nat → List Wd'}
theorem tup2_val {ρ : Rho} {u v : Rho → T D} {p q : D} (hu : u ρ = .ret p) (hv : v ρ = .ret q) : eTup (aCons u (aCons v aNil)) ρ = .ret (.tup [p, q]) := by
  have s : small [p, q] = true := small_of (by simp)
  simp only [eTup, aCons, aNil, hu, hv, T.bind, s, cond]
theorem nl1_all {y3 y4 y5 y6 : Ent} (h : LineOk ds (b.length + 1) L) (hw : ∀ j, j ≤ b.length → ∀ w ∈ L j, w.length ≤ 100) (hb : ∀ j, j ≤ b.length → (L j).length ≤ 300) : T.all (fun o => ∃ es, o = .nx [.val (.lst ds), .val (nt x), .val (nw b), .own es, y4, y5, y6] ∧ LineOk es 1 (stepR x (ltA b) (fun j => addL x (ltA b j)) L)) (nl1 [.val (.lst ds), .val (nt x), .val (nw b), y3, y4, y5, y6]) := by
  obtain ⟨kv, e, r⟩ := h.at_ 0 (by omega)
  have i0 : eBin ixD (eVar 0) (eC (.int 0)) [.val (.lst ds), .val (nt x), .val (nw b), y3, y4, y5, y6] = .ret (.dic (dD kv)) := ix_at e
  have t := tup2_val (v := eVar 1) (q := nt x) i0 rfl
  have s1 : ∀ z : D, small [z] = true := small1
  have a : eL (lLst (aCons (eTup (aCons (eBin ixD (eVar 0) (eC (.int 0))) (aCons (eVar 1) aNil))) aNil)) [.val (.lst ds), .val (nt x), .val (nw b), y3, y4, y5, y6] = .ret (.lst [.tup [.dic (dD kv), nt x]]) := by
    simp only [eL, lLst, aCons, aNil] at t ⊢
    rw [t]
    simp only [T.bind, s1, cond]
  have pl : PL [.tup [.dic (dD kv), nt x]] ((L 0).map (· ++ [x]) ++ []) := .cons r .nil
  rw [List.append_nil] at pl
  have wl := wl_all pl (fun w h => by
    obtain ⟨v, hv, rfl⟩ := List.mem_map.mp h
    have := hw 0 (by omega) v hv
    simp
    omega) (by rw [List.length_map]; have := hb 0 (by omega); omega)
  unfold nl1
  refine T.all_bind.mpr (T.all_bind.mpr (T.all_bind.mpr (call1_all (all_eq a (T.all_mono (fun d hd => ?_) wl)))))
  obtain ⟨kv', rfl, r'⟩ := hd
  show T.all _ (cond (small [D.dic (dD kv')]) (T.ret [D.dic (dD kv')]) T.fail)
  rw [s1]
  refine ⟨_, rfl, rfl, fun j hj => ?_⟩
  have : j = 0 := by omega
  subst this
  exact ⟨kv', rfl, r'⟩
theorem nlB_all {y6 : Ent} {es : List D} {j : Nat} (h : LineOk ds (b.length + 1) L) (g : LineOk es (j + 1) (stepR x (ltA b) (fun j => addL x (ltA b j)) L)) (hj : j < b.length) (hb10 : b.length ≤ 10) (hx : x.length ≤ 1000) (hw : ∀ k, k ≤ b.length → (∀ w ∈ L k, w.length ≤ 100) ∧ (∀ w ∈ stepR x (ltA b) (fun j => addL x (ltA b j)) L k, w.length ≤ 100)) (hb : ∀ k, k ≤ b.length → (L k).length ≤ 300 ∧ (stepR x (ltA b) (fun j => addL x (ltA b j)) L k).length ≤ 300) :
    T.all (fun o => ∃ es' z6, o = .nx [.val (.lst ds), .val (nt x), .val (nw b), .own es', .val (nI j), .val (nt (ltA b j)), z6] ∧ LineOk es' (j + 2) (stepR x (ltA b) (fun j => addL x (ltA b j)) L)) (nlB [.val (.lst ds), .val (nt x), .val (nw b), .own es, .val (nI j), .val (nt (ltA b j)), y6]) := by
  obtain ⟨k1, e1, r1⟩ := h.at_ (j + 1) (by omega)
  obtain ⟨k2, e2, r2⟩ := g.at_ j (by omega)
  obtain ⟨k3, e3, r3⟩ := h.at_ j (by omega)
  have bv := both_val (l := x) (m := ltA b j) hx
  have st1 : sSet 6 (eCall 2 f_both_letters (aCons (eVar 1) (aCons (eVar 5) aNil))) [.val (.lst ds), .val (nt x), .val (nw b), .own es, .val (nI j), .val (nt (ltA b j)), y6] = .ret (.nx [.val (.lst ds), .val (nt x), .val (nw b), .own es, .val (nI j), .val (nt (ltA b j)), .val (nt (addL x (ltA b j)))]) := by
    have c : eCall 2 f_both_letters (aCons (eVar 1) (aCons (eVar 5) aNil)) [.val (.lst ds), .val (nt x), .val (nw b), .own es, .val (nI j), .val (nt (ltA b j)), y6] = .ret (nt (addL x (ltA b j))) := by
      simp only [eCall, aCons, aNil, eVar, List.getElem?_cons_succ, List.getElem?_cons_zero, T.bind, List.length_cons, List.length_nil, BEq.rfl, cond, bv]
    unfold sSet
    rw [c]
    rfl
  have i1 : eBin ixD (eVar 0) (eBin opAdd (eVar 4) (eC (.int 1))) [.val (.lst ds), .val (nt x), .val (nw b), .own es, .val (nI j), .val (nt (ltA b j)), .val (nt (addL x (ltA b j)))] = .ret (.dic (dD k1)) := by
    show ixL ds (.int ((j : Int) + 1)) = _
    have := ix_at e1
    rw [show (((j + 1 : Nat)) : Int) = (j : Int) + 1 by omega] at this
    exact this
  have i2 : ixOwn 3 (eVar 4) [.val (.lst ds), .val (nt x), .val (nw b), .own es, .val (nI j), .val (nt (ltA b j)), .val (nt (addL x (ltA b j)))] = .ret (.dic (dD k2)) := ix_at e2
  have i3 : eBin ixD (eVar 0) (eVar 4) [.val (.lst ds), .val (nt x), .val (nw b), .own es, .val (nI j), .val (nt (ltA b j)), .val (nt (addL x (ltA b j)))] = .ret (.dic (dD k3)) := ix_at e3
  have t1 := tup2_val (v := eVar 1) (q := nt x) i1 rfl
  have t2 := tup2_val (v := eVar 5) (q := nt (ltA b j)) i2 rfl
  have t3 := tup2_val (v := eVar 6) (q := nt (addL x (ltA b j))) i3 rfl
  have s3 : ∀ u v w : D, small [u, v, w] = true := fun u v w => small_of (by simp)
  have a : eL (lLst (aCons (eTup (aCons (eBin ixD (eVar 0) (eBin opAdd (eVar 4) (eC (.int 1)))) (aCons (eVar 1) aNil))) (aCons (eTup (aCons (ixOwn 3 (eVar 4)) (aCons (eVar 5) aNil))) (aCons (eTup (aCons (eBin ixD (eVar 0) (eVar 4)) (aCons (eVar 6) aNil))) aNil)))) [.val (.lst ds), .val (nt x), .val (nw b), .own es, .val (nI j), .val (nt (ltA b j)), .val (nt (addL x (ltA b j)))] = .ret (.lst [.tup [.dic (dD k1), nt x], .tup [.dic (dD k2), nt (ltA b j)], .tup [.dic (dD k3), nt (addL x (ltA b j))]]) := by
    generalize eTup (aCons (eBin ixD (eVar 0) (eBin opAdd (eVar 4) (eC (.int 1)))) (aCons (eVar 1) aNil)) = u1 at t1 ⊢
    generalize eTup (aCons (ixOwn 3 (eVar 4)) (aCons (eVar 5) aNil)) = u2 at t2 ⊢
    generalize eTup (aCons (eBin ixD (eVar 0) (eVar 4)) (aCons (eVar 6) aNil)) = u3 at t3 ⊢
    simp only [eL, lLst, aCons, aNil, t1, t2, t3, T.bind, s3, cond]
  have pl : PL [.tup [.dic (dD k1), nt x], .tup [.dic (dD k2), nt (ltA b j)], .tup [.dic (dD k3), nt (addL x (ltA b j))]] (stepR x (ltA b) (fun j => addL x (ltA b j)) L (j + 1)) := by
    have p := PL.cons (x := x) r1 (PL.cons (x := ltA b j) r2 (PL.cons (x := addL x (ltA b j)) r3 .nil))
    rw [List.append_nil] at p
    exact p
  have wl := wl_all pl (fun w h => by have := (hw (j + 1) (by omega)).2 w h; omega) (by have := (hb (j + 1) (by omega)).2; omega)
  unfold nlB
  refine seq_nx (all_eq st1 ⟨_, rfl, ?_⟩)
  refine app_all (i := 3) rfl (by rw [g.len]; omega) (call1_all (all_eq a (T.all_mono (fun d hd => ?_) wl)))
  obtain ⟨kv, rfl, r⟩ := hd
  refine ⟨_, _, rfl, by rw [List.length_append, g.len]; rfl, fun k hk => ?_⟩
  by_cases q : k < j + 1
  · obtain ⟨kv', e', r'⟩ := g.at_ k q
    exact ⟨kv', by rw [List.getElem?_append_left (by rw [g.len]; exact q)]; exact e', r'⟩
  · have : k = j + 1 := by omega
    subst this
    exact ⟨kv, by rw [List.getElem?_append_right (by rw [g.len]; exact Nat.le_refl _), g.len, Nat.sub_self]; rfl, r⟩
@[irreducible] def nlF : List D → T D := f__next_line
theorem nl_all (h : LineOk ds (b.length + 1) L) (hb10 : b.length ≤ 10) (hx : x.length ≤ 1000) (hw : ∀ k, k ≤ b.length → (∀ w ∈ L k, w.length ≤ 100) ∧ (∀ w ∈ stepR x (ltA b) (fun j => addL x (ltA b j)) L k, w.length ≤ 100)) (hb : ∀ k, k ≤ b.length → (L k).length ≤ 300 ∧ (stepR x (ltA b) (fun j => addL x (ltA b j)) L k).length ≤ 300) :
    T.all (fun d => ∃ es, d = .lst es ∧ LineOk es (b.length + 1) (stepR x (ltA b) (fun j => addL x (ltA b j)) L)) (nlF [.lst ds, nt x, nw b]) := by
  unfold nlF f__next_line runB
  rw [nl_eq]
  refine T.all_bind.mpr ?_
  show T.all _ (bSeq nl1 _ [.val (.lst ds), .val (nt x), .val (nw b), .un, .un, .un, .un])
  refine seq_nx (T.all_mono (fun o ho => ?_) (nl1_all h (fun j hj => (hw j hj).1) fun j hj => (hb j hj).1))
  obtain ⟨es, rfl, g⟩ := ho
  refine ⟨_, rfl, seq_nx ?_⟩
  show T.all _ (forT _ (numbered 0 (b.map nt)) [.val (.lst ds), .val (nt x), .val (nw b), .own es, .un, .un, .un])
  refine T.all_mono (fun o ho => ?_) (for_inv (P := fun i ρ => ∃ es y4 y5 y6, ρ = [.val (.lst ds), .val (nt x), .val (nw b), .own es, y4, y5, y6] ∧ LineOk es (i + 1) (stepR x (ltA b) (fun j => addL x (ltA b j)) L)) (k := 0) ⟨es, .un, .un, .un, rfl, g⟩ fun i d ρ hi hd hp => ?_)
  · obtain ⟨ρ', rfl, es', y4, y5, y6, rfl, g'⟩ := ho
    rw [numbered_len, List.length_map, Nat.zero_add] at g'
    exact ⟨_, rfl, es', rfl, g'⟩
  · obtain ⟨es', y4, y5, y6, rfl, g'⟩ := hp
    obtain ⟨r, hr, rfl⟩ := numbered_get hd
    rw [Nat.sub_zero] at hr
    rw [Nat.sub_zero, Nat.zero_add]
    rw [List.getElem?_map] at hr
    obtain ⟨l, hl, rfl⟩ := Option.map_eq_some_iff.mp hr
    have hib : i < b.length := (List.getElem?_eq_some_iff.mp hl).1
    have el : l = ltA b i := by
      unfold ltA
      rw [List.getD_eq_getElem?_getD, hl]
      rfl
    subst el
    show T.all _ (nlB [.val (.lst ds), .val (nt x), .val (nw b), .own es', .val (nI i), .val (nt (ltA b i)), y6])
    refine T.all_mono (fun o ho => ?_) (nlB_all h g' hib hb10 hx hw hb)
    obtain ⟨es2, z6, rfl, g2⟩ := ho
    exact ⟨_, rfl, es2, _, _, _, rfl, g2⟩
end

/-! laced, how_many. -/
def lacA (a b : Wd') : Nat → Nat → List Wd' := lac (ltA a) (ltA b) (fun i j => addL (ltA a i) (ltA b j))
theorem lacA_succ (a b : Wd') (i : Nat) : lacA a b (i + 1) = stepR (ltA a i) (ltA b) (fun j => addL (ltA a i) (ltA b j)) (lacA a b i) := by
  funext j
  rfl
theorem lac_few : ((List.range 5).all fun i => (List.range 4).all fun j => decide ((lac sx sy sxy i j).length ≤ 129)) = true := by decide +kernel
theorem lacA_len (a b : Wd') {i j : Nat} (hi : i ≤ 4) (hj : j ≤ 3) : (lacA a b i j).length ≤ 129 := by
  unfold lacA
  rw [lac_ap, List.length_map]
  exact of_decide_eq_true (List.all_eq_true.mp (List.all_eq_true.mp lac_few i (List.mem_range.mpr (by omega))) j (List.mem_range.mpr (by omega)))
theorem lacA_word (a b : Wd') {i j : Nat} : ∀ w ∈ lacA a b i j, w.length ≤ i + j := fun w hw =>
  (lac_all (P := fun _ => True) (I := i) (J := j) (fun _ _ => trivial) (fun _ _ => trivial) (fun _ _ _ _ => trivial) i j (Nat.le_refl _) (Nat.le_refl _) w hw).1
@[irreducible] def ld0 : Rho → T (List D) := lComp [4] (iRg rng1 (aCons (eBin opAdd (eCa bLen (aCons (eVar 1) aNil)) (eC (.int 1))) aNil)) (gNm 4) yesT (eDict1 (eSl (eVar 1) oNo (oPart (eVar 4))) (eC (.int 1)))
@[irreducible] def ldB : Rho → T Out := sSet 2 (eCall 3 nlF (aCons (eVar 2) (aCons (eVar 3) (aCons (eVar 1) aNil))))
@[irreducible] def ldR : Rho → T Out := sRet (eBin ixD (eVar 2) (eUn uNeg (eC (.int 1))))
theorem ld_eq : m_laced = bSeq (sOwn 2 ld0) (bFreeze 2 (bSeq (sFor (iTp (eVar 0)) (gNm 3) ldB) ldR)) := by
  unfold m_laced ld0 ldB ldR nlF
  rfl
theorem rep_one {α : Type} [DecidableEq α] (w : α) : Rep [(w, 1)] [w] := ⟨by simp, fun p h => by rw [List.mem_singleton.mp h]; exact Nat.one_pos, by simp [exW]⟩
section
variable {a b : Wd'} {ds : List D} {y3 y4 : Ent}
theorem ld0_val (h3 : b.length ≤ 3) : ∃ ds, ld0 [.val (nw a), .val (nw b), .un, .un, .un] = .ret ds ∧ LineOk ds (b.length + 1) (lacA a b 0) := by
  have len : bLen [nw b] = .ret (.int (b.length : Int)) := by
    show T.ret (D.int ((b.map nt).length : Int)) = _
    rw [List.length_map]
  have e1 : eBin opAdd (eCa bLen (aCons (eVar 1) aNil)) (eC (.int 1)) [.val (nw a), .val (nw b), .un, .un, .un] = .ret (.int ((b.length + 1 : Nat) : Int)) := by
    simp only [eBin, eCa, aCons, aNil, eVar, eC, List.getElem?_cons_succ, List.getElem?_cons_zero, T.bind, len, opAdd]
    rw [show ((b.length + 1 : Nat) : Int) = (b.length : Int) + 1 by omega]
  refine ⟨(List.range (b.length + 1)).map fun j => .dic (dD [(b.take j, 1)]), ?_, by simp, fun j hj => ⟨[(b.take j, 1)], ?_, ?_⟩⟩
  · unfold ld0 lComp
    rw [rng_val e1 (by omega)]
    show compT (gNm 4) yesT _ [.val (nw a), .val (nw b), .un, .un, .un] (upto 0 (b.length + 1)) [] = _
    rw [upto_range, compT_map (f := fun d => .dic (dD [(b.take (unI d), 1)])) (by simp; omega) fun d hd => ?_]
    · rw [List.nil_append, List.map_map]
      congr 1
    · obtain ⟨i, hi, rfl⟩ := List.mem_map.mp hd
      have hi := List.mem_range.mp hi
      rw [un_I]
      have s := sl_lo (ρ := [.val (nw a), .val (nw b), .un, .un, .val (nI i)]) (p := 1) (q := 4) (i := i) (ds := b.map nt) rfl rfl (by rw [List.length_map]; omega)
      rw [← List.map_take] at s
      show eDict1 (eSl (eVar 1) oNo (oPart (eVar 4))) (eC (.int 1)) [.val (nw a), .val (nw b), .un, .un, .val (nI i)] = _
      have k := key_nw (b.take i) fun _ => T.ret (D.dic [(nw (b.take i), .int 1)])
      show ((eSl (eVar 1) oNo (oPart (eVar 4)) _).bind fun dk => (eC (.int 1) _).bind fun dv => withKey dk fun _ => T.ret (D.dic [(dk, dv)])) = _
      rw [s]
      exact k
  · rw [List.getElem?_map, List.getElem?_range hj]
    rfl
  · have e : lacA a b 0 j = [b.take j] := by
      show [(List.range j).map (ltA b)] = _
      rw [range_take b (by omega)]
    rw [e]
    exact rep_one _
@[irreducible] def lcF : List D → T D := f_laced
theorem laced_all (ha : a.length ≤ 4) (hb : b.length ≤ 3) (hl : ∀ l ∈ a, l.length ≤ 1000) : T.all (fun d => ∃ kv, d = .dic (dD kv) ∧ Rep kv (Lw a b)) (lcF [nw a, nw b]) := by
  unfold lcF f_laced runB
  rw [ld_eq]
  obtain ⟨ds, e0, g0⟩ := ld0_val (a := a) hb
  have first : sOwn 2 ld0 [.val (nw a), .val (nw b), .un, .un, .un] = .ret (.nx [.val (nw a), .val (nw b), .own ds, .un, .un]) := by
    unfold sOwn
    rw [e0]
    rfl
  refine T.all_bind.mpr (seq_nx (all_eq first ⟨_, rfl, ?_⟩))
  show T.all _ (bSeq (sFor (iTp (eVar 0)) (gNm 3) ldB) ldR [.val (nw a), .val (nw b), .val (.lst ds), .un, .un])
  refine seq_nx ?_
  show T.all _ (forT _ (a.map nt) [.val (nw a), .val (nw b), .val (.lst ds), .un, .un])
  refine T.all_mono (fun o ho => ?_) (for_inv (P := fun i ρ => ∃ ds y3 y4, ρ = [.val (nw a), .val (nw b), .val (.lst ds), y3, y4] ∧ LineOk ds (b.length + 1) (lacA a b i)) (k := 0) ⟨ds, .un, .un, rfl, g0⟩ fun i d ρ hi hd hp => ?_)
  · obtain ⟨ρ', rfl, ds', y3, y4, rfl, g⟩ := ho
    rw [List.length_map, Nat.zero_add] at g
    obtain ⟨kv, e, r⟩ := g.at_ b.length (by omega)
    refine ⟨_, rfl, ?_⟩
    have ix : ixL ds' (.int (-1)) = .ret (.dic (dD kv)) := by
      unfold ixL
      dsimp only
      have at1 : atI ds' (-1) = some (.dic (dD kv)) := by
        unfold atI ixN
        rw [g.len, if_neg (by omega), if_pos (by omega)]
        show ds'[((-1 : Int) + ((b.length + 1 : Nat) : Int)).toNat]? = _
        rw [show ((-1 : Int) + ((b.length + 1 : Nat) : Int)).toNat = b.length by omega, e]
      rw [at1]
    unfold ldR
    refine T.all_bind.mpr (bin_all (all_eq (a := .lst ds') rfl (all_eq (a := .int (-1)) rfl ?_)))
    show T.all _ (ixL ds' (.int (-1)))
    rw [ix]
    exact ⟨kv, rfl, r⟩
  · obtain ⟨ds', y3, y4, rfl, g⟩ := hp
    rw [Nat.sub_zero, List.getElem?_map] at hd
    obtain ⟨l, hl1, rfl⟩ := Option.map_eq_some_iff.mp hd
    have hia : i < a.length := (List.getElem?_eq_some_iff.mp hl1).1
    have el : l = ltA a i := by
      unfold ltA
      rw [List.getD_eq_getElem?_getD, hl1]
      rfl
    have ll := hl l (List.mem_of_getElem? hl1)
    subst el
    show T.all _ (ldB [.val (nw a), .val (nw b), .val (.lst ds'), .val (nt (ltA a i)), y4])
    have n := nl_all (ds := ds') (b := b) (x := ltA a i) (L := lacA a b i) g (by omega) ll (fun k hk => ⟨fun w hw => by have := lacA_word a b w hw; omega, fun w hw => by
      rw [← lacA_succ] at hw
      have := lacA_word a b w hw
      omega⟩) fun k hk => ⟨by have := lacA_len a b (i := i) (j := k) (by omega) (by omega); omega, by
      rw [← lacA_succ]
      have := lacA_len a b (i := i + 1) (j := k) (by omega) (by omega)
      omega⟩
    unfold ldB
    refine T.all_bind.mpr (call3_all (all_eq (a := .lst ds') rfl (all_eq (a := nt (ltA a i)) rfl (all_eq (a := nw b) rfl (T.all_mono (fun d hd => ?_) n)))))
    obtain ⟨es, rfl, g'⟩ := hd
    rw [← lacA_succ] at g'
    exact ⟨_, rfl, es, _, _, rfl, g'⟩
end
/-! how_many -/
def hmB (i j : Nat) : Bool := match f_how_many [nI i, nI j] with
  | .ret (.int n) => decide (n = ((lac sx sy sxy i j).length : Int))
  | _ => false
theorem hm_all : ((List.range 5).all fun i => (List.range 4).all fun j => hmB i j) = true := by decide +kernel
@[irreducible] def hmF : List D → T D := f_how_many
theorem hm_val {i j : Nat} (hi : i ≤ 4) (hj : j ≤ 3) : hmF [nI i, nI j] = .ret (nI (lac sx sy sxy i j).length) := by
  have h := List.all_eq_true.mp (List.all_eq_true.mp hm_all i (List.mem_range.mpr (by omega))) j (List.mem_range.mpr (by omega))
  unfold hmB at h
  unfold hmF
  split at h
  · rename_i n e
    rw [e, of_decide_eq_true h]
    rfl
  · cases h
theorem lw_len (a b : Wd') : (Lw a b).length = (lac sx sy sxy a.length b.length).length := by
  unfold Lw
  rw [lac_ap, List.length_map]

/-! Words sorted. -/
section
variable {α β : Type}
theorem ins_map {f : α → β} {le : β → β → Bool} {le' : α → α → Bool} (h : ∀ a b, le (f a) (f b) = le' a b) (a : α) : ∀ l : List α, ins le (f a) (l.map f) = (ins le' a l).map f
  | [] => rfl
  | b :: l => by
    show cond (le (f a) (f b)) (f a :: f b :: l.map f) (f b :: ins le (f a) (l.map f)) = (cond (le' a b) (a :: b :: l) (b :: ins le' a l)).map f
    rw [h, ins_map h a l]
    cases le' a b <;> rfl
theorem isort_map {f : α → β} {le : β → β → Bool} {le' : α → α → Bool} (h : ∀ a b, le (f a) (f b) = le' a b) : ∀ l : List α, isort le (l.map f) = (isort le' l).map f
  | [] => rfl
  | a :: l => by
    show ins le (f a) (isort le (l.map f)) = (ins le' a (isort le' l)).map f
    rw [isort_map h l, ins_map h]
theorem isort_perm {le : α → α → Bool} (h : TotalLe le) (l : List α) : (isort le l).Perm l := by
  rw [← merge_isort h]
  exact List.mergeSort_perm l le
theorem isort_sorted {le : α → α → Bool} (h : TotalLe le) (l : List α) : (isort le l).Pairwise fun a b => le a b = true := by
  rw [← merge_isort h]
  exact sort_pairwise h l
theorem sorted_eq {le : α → α → Bool} : ∀ {l m : List α}, (∀ a ∈ l, ∀ b ∈ l, le a b = true → le b a = true → a = b) → l.Perm m → l.Pairwise (fun a b => le a b = true) → m.Pairwise (fun a b => le a b = true) → l = m
  | [], m, _, p, _, _ => p.nil_eq
  | a :: l, [], _, p, _, _ => p.eq_nil
  | a :: l, b :: m, an, p, s, t => by
    have s' := List.pairwise_cons.mp s
    have t' := List.pairwise_cons.mp t
    have e : a = b := by
      have ha : a ∈ b :: m := p.mem_iff.mp List.mem_cons_self
      have hb : b ∈ a :: l := p.mem_iff.mpr List.mem_cons_self
      rcases List.mem_cons.mp ha with h | h
      · exact h
      · rcases List.mem_cons.mp hb with h2 | h2
        · exact h2.symm
        · exact an a List.mem_cons_self b hb (s'.1 b h2) (t'.1 a h)
    subst e
    rw [sorted_eq (fun x hx y hy => an x (List.mem_cons_of_mem _ hx) y (List.mem_cons_of_mem _ hy)) p.cons_inv s'.2 t'.2]
end
def pL (l : List Nat) : PyData := .tuple (l.map fun n : Nat => .int n)
def pW (w : Wd') : PyData := .tuple (w.map pL)
def pP (p : Wd' × Nat) : PyData := .tuple [pW p.1, .int (p.2 : Int)]
def prD (p : Wd' × Nat) : D := .tup [nw p.1, nI p.2]
theorem pys_ints : ∀ l : List Nat, D.pys (l.map nI) = some (l.map fun n : Nat => PyData.int n)
  | [] => rfl
  | n :: l => by
    unfold List.map D.pys
    rw [pys_ints l]
    rfl
theorem py_nt (l : List Nat) : (nt l).py = some (pL l) := by
  unfold nt D.py
  rw [pys_ints]
  rfl
theorem pys_nts : ∀ w : Wd', D.pys (w.map nt) = some (w.map pL)
  | [] => rfl
  | l :: w => by
    unfold List.map D.pys
    rw [pys_nts w, py_nt]
theorem py_nw (w : Wd') : (nw w).py = some (pW w) := by
  unfold nw D.py
  rw [pys_nts]
  rfl
theorem py_pr (p : Wd' × Nat) : (prD p).py = some (pP p) := by
  unfold prD D.py D.pys
  rw [py_nw]
  rfl
theorem pyOf_nw (w : Wd') : pyOf (nw w) = pW w := by
  unfold pyOf
  rw [py_nw]
  rfl
theorem pyOf_pr (p : Wd' × Nat) : pyOf (prD p) = pP p := by
  unfold pyOf
  rw [py_pr]
  rfl
theorem alike_ints : ∀ l m : List Nat, alikeAll (l.map fun n : Nat => PyData.int n) (m.map fun n : Nat => PyData.int n) = true
  | [], _ => by simp [alikeAll]
  | _ :: _, [] => by simp [alikeAll]
  | a :: l, b :: m => by
    simp only [List.map_cons, alikeAll, alike, Bool.true_and]
    exact alike_ints l m
theorem alike_words : ∀ v w : Wd', alikeAll (v.map pL) (w.map pL) = true
  | [], _ => by simp [alikeAll]
  | _ :: _, [] => by simp [alikeAll]
  | a :: l, b :: m => by
    simp only [List.map_cons, alikeAll, pL, alike, Bool.true_and, alike_ints]
    exact alike_words l m
theorem alike_W (v w : Wd') : alike (pW v) (pW w) = true := by
  simp only [pW, alike]
  exact alike_words v w
theorem alike_P (p q : Wd' × Nat) : alike (pP p) (pP q) = true := by
  simp only [pP, alike, alikeAll, alike_W, Bool.true_and, Bool.and_self]
theorem eqv_ints : ∀ {l m : List Nat}, PyData.eqvAll (l.map fun n : Nat => PyData.int n) (m.map fun n : Nat => PyData.int n) = true → l = m
  | [], [], _ => rfl
  | [], _ :: _, h => by simp [PyData.eqvAll] at h
  | _ :: _, [], h => by simp [PyData.eqvAll] at h
  | a :: l, b :: m, h => by
    simp only [List.map_cons, PyData.eqvAll, PyData.eqv, Bool.and_eq_true] at h
    have e : a = b := by have := h.1; simp at this; omega
    rw [e, eqv_ints h.2]
theorem eqv_words : ∀ {v w : Wd'}, PyData.eqvAll (v.map pL) (w.map pL) = true → v = w
  | [], [], _ => rfl
  | [], _ :: _, h => by simp [PyData.eqvAll] at h
  | _ :: _, [], h => by simp [PyData.eqvAll] at h
  | a :: l, b :: m, h => by
    simp only [List.map_cons, PyData.eqvAll, pL, PyData.eqv, Bool.and_eq_true] at h
    rw [eqv_ints h.1, eqv_words (v := l) (w := m) (by simpa only [pL] using h.2)]
theorem eqv_W {v w : Wd'} (h : v ≠ w) : PyData.eqv (pW v) (pW w) = false := by
  cases e : PyData.eqv (pW v) (pW w) with
  | false => rfl
  | true =>
    simp only [pW, PyData.eqv] at e
    exact absurd (eqv_words e) h
theorem toks_W {v w : Wd'} (h : v ≠ w) (l m : List (Int ⊕ List Nat)) : lexLt itemOrd (keyToks (pW v) ++ l) (keyToks (pW w) ++ m) = lexLt itemOrd (keyToks (pW v)) (keyToks (pW w)) := (toks_eqv (pW v) (pW w) (alike_W v w)).2 (eqv_W h) l m
theorem toks_inj {v w : Wd'} (e : keyToks (pW v) = keyToks (pW w)) : v = w := by
  refine Decidable.byContradiction fun h => ?_
  have t := toks_W h [] [.inl 0]
  rw [e, lex_pre] at t
  have z : lexLt itemOrd (keyToks (pW w)) (keyToks (pW w)) = false := lex_irrefl (O := itemOrd) _
  rw [z] at t
  exact absurd t (by decide)
def wLe (v w : Wd') : Bool := dLe (nw v) (nw w)
def pLe (p q : Wd' × Nat) : Bool := dLe (prD p) (prD q)
theorem dLe_total : TotalLe dLe := sortLe_total (listOrd itemOrd) false fun d => keyToks (pyOf d)
theorem wLe_total : TotalLe wLe := ⟨fun a b c => dLe_total.trans _ _ _, fun a b => dLe_total.total _ _⟩
theorem pLe_total : TotalLe pLe := ⟨fun a b c => dLe_total.trans _ _ _, fun a b => dLe_total.total _ _⟩
theorem wLe_eq (v w : Wd') : wLe v w = !lexLt itemOrd (keyToks (pW w)) (keyToks (pW v)) := by
  show (!lexLt itemOrd (keyToks (pyOf (nw w))) (keyToks (pyOf (nw v)))) = _
  rw [pyOf_nw, pyOf_nw]
theorem keyToks_tup (xs : List PyData) : keyToks (.tuple xs) = keyToksAll xs := by rw [keyToks]
theorem pLe_eq {p q : Wd' × Nat} (h : p.1 ≠ q.1) : pLe p q = wLe p.1 q.1 := by
  rw [wLe_eq]
  show (!lexLt itemOrd (keyToks (pyOf (prD q))) (keyToks (pyOf (prD p)))) = _
  rw [pyOf_pr, pyOf_pr]
  unfold pP
  rw [keyToks_tup, keyToks_tup, toks_all_cons, toks_all_cons]
  congr 1
  exact (lex_self (O := itemOrd) (Sum.inl 1) _ _).trans (toks_W (fun e => h e.symm) _ _)
theorem wLe_anti {v w : Wd'} (h : wLe v w = true) (g : wLe w v = true) : v = w := by
  rw [wLe_eq, Bool.not_eq_true'] at h g
  exact toks_inj (lex_total (O := itemOrd) _ _ g h)
theorem Rep.count {kv kv' : List (Wd' × Nat)} {l l' : List Wd'} (h : Rep kv l) (g : Rep kv' l') (p : l.Perm l') (k : Wd') : getW kv k = getW kv' k :=
  (h.get k).trans ((@List.Perm.count_eq Wd' instBEqOfDecidableEq l l' p k).trans (g.get k).symm)
/-- what is told: the words in their order, each with its number -/
def tellW (kv : List (Wd' × Nat)) : List (Wd' × Nat) := (isort wLe (kv.map (·.1))).map fun w => (w, getW kv w)
theorem tell_perm {kv : List (Wd' × Nat)} (nd : (kv.map (·.1)).Nodup) : (tellW kv).Perm kv := by
  have e : (kv.map (·.1)).map (fun w => (w, getW kv w)) = kv := by
    rw [List.map_map]
    have : kv.map ((fun w => (w, getW kv w)) ∘ fun x => x.1) = kv.map id := List.map_congr_left fun p hp => by
      show (p.1, getW kv p.1) = p
      rw [get_at nd p hp]
    rw [this, List.map_id]
  have := (isort_perm wLe_total (kv.map (·.1))).map fun w => (w, getW kv w)
  rw [e] at this
  exact this
theorem tell_sorted {kv : List (Wd' × Nat)} (nd : (kv.map (·.1)).Nodup) : (tellW kv).Pairwise fun p q => pLe p q = true := by
  unfold tellW
  rw [List.pairwise_map]
  have n : (isort wLe (kv.map (·.1))).Nodup := (isort_perm wLe_total _).nodup_iff.mpr nd
  refine (List.Pairwise.and (isort_sorted wLe_total (kv.map fun x => x.1)) (show List.Pairwise (fun a b : Wd' => a ≠ b) (isort wLe (kv.map fun x => x.1)) from n)).imp fun {v w} h => ?_
  rw [pLe_eq (show v ≠ w from h.2)]
  exact h.1
theorem tell_due {kv kv' : List (Wd' × Nat)} {l l' : List Wd'} (h : Rep kv l) (g : Rep kv' l') (p : l.Perm l') : tellW kv = isort pLe kv' := by
  refine sorted_eq (le := pLe) (fun a ha b hb x y => ?_) ?_ (tell_sorted h.nd) (isort_sorted pLe_total kv')
  · obtain ⟨v, _, rfl⟩ := List.mem_map.mp ha
    obtain ⟨w, _, rfl⟩ := List.mem_map.mp hb
    by_cases e : v = w
    · rw [e]
    · rw [pLe_eq (show (v, getW kv v).1 ≠ (w, getW kv w).1 from e)] at x
      rw [pLe_eq (show (w, getW kv w).1 ≠ (v, getW kv v).1 from fun z => e z.symm)] at y
      exact absurd (wLe_anti x y) e
  · have e : kv'.map (fun q => (q.1, getW kv q.1)) = kv' := by
      have : kv'.map (fun q => (q.1, getW kv q.1)) = kv'.map id := List.map_congr_left fun q hq => by
        show (q.1, getW kv q.1) = q
        rw [Rep.count h g p, get_at g.nd q hq]
      rw [this, List.map_id]
    have k := ((isort_perm wLe_total (kv.map (·.1))).trans (h.keys g p)).map fun w => (w, getW kv w)
    rw [List.map_map] at k
    refine (k.trans ?_).trans (isort_perm pLe_total kv').symm
    show (kv'.map fun q => (q.1, getW kv q.1)).Perm kv'
    rw [e]
theorem tell_same {kv kv' : List (Wd' × Nat)} {l l' : List Wd'} (h : Rep kv l) (g : Rep kv' l') (p : l.Perm l') : tellW kv = tellW kv' := by
  rw [tell_due h h (List.Perm.refl _), ← tell_due g h p.symm]
/-! sorted by the program -/
theorem py_w (w : Wd') : PyOk 2 (nw w) := py_tup fun d hd => by
  obtain ⟨l, _, rfl⟩ := List.mem_map.mp hd
  exact py_tup fun d hd => by
    obtain ⟨n, _, rfl⟩ := List.mem_map.mp hd
    exact py_int n
theorem py_p (p : Wd' × Nat) : PyOk 3 (prD p) := py_tup fun d hd => by
  rcases List.mem_cons.mp hd with rfl | hd
  · exact py_w p.1
  · rw [List.mem_singleton.mp hd]
    obtain ⟨q, a, b, c⟩ := py_int (p.2 : Int)
    exact ⟨q, a, b, Nat.le_trans c (by decide)⟩
theorem py_ok {n : Nat} {d : D} (h : PyOk n d) (l : n ≤ 32) : (d.py.isSome && decide ((pyOf d).depth ≤ 32)) = true := by
  obtain ⟨p, e, _, b⟩ := h
  unfold pyOf
  rw [e]
  exact Bool.and_eq_true_iff.mpr ⟨rfl, decide_eq_true (Nat.le_trans b l)⟩
theorem sort_keys {kv : List (Wd' × Nat)} (hs : kv.length ≤ 100000) (h : kv.map (·.1) = [[]] ∨ ∀ w ∈ kv.map (·.1), w ≠ []) : sortD ((dD kv).map (·.1)) = .ret ((tellW kv).map fun p => nw p.1) := by
  have e : (dD kv).map (·.1) = (kv.map (·.1)).map nw := by
    unfold dD
    rw [List.map_map, List.map_map]
    rfl
  have e2 : (tellW kv).map (fun p => nw p.1) = (isort wLe (kv.map (·.1))).map nw := by
    unfold tellW
    rw [List.map_map]
    rfl
  rw [e, e2]
  generalize hk : kv.map (·.1) = ks at h
  have hl : ks.length ≤ 100000 := by rw [← hk, List.length_map]; exact hs
  rcases h with h | h
  · rw [h]
    rfl
  · cases ks with
    | nil => rfl
    | cons k ks =>
    have i : isEmptyTup ((k :: ks).map nw) = false := by
      cases k with
      | nil => exact absurd rfl (h [] List.mem_cons_self)
      | cons l k => rfl
    have o : okSort ((k :: ks).map nw) = true := by
      unfold okSort
      refine Bool.and_eq_true_iff.mpr ⟨Bool.and_eq_true_iff.mpr ⟨Bool.and_eq_true_iff.mpr ⟨?_, ?_⟩, ?_⟩, ?_⟩
      · refine List.all_eq_true.mpr fun d hd => ?_
        obtain ⟨w, _, rfl⟩ := List.mem_map.mp hd
        exact py_ok (py_w w) (by decide)
      · refine List.all_eq_true.mpr fun p hp => List.all_eq_true.mpr fun q hq => ?_
        rw [List.map_map] at hp hq
        obtain ⟨v, _, rfl⟩ := List.mem_map.mp hp
        obtain ⟨w, _, rfl⟩ := List.mem_map.mp hq
        show alike (pyOf (nw v)) (pyOf (nw w)) = true
        rw [pyOf_nw, pyOf_nw]
        exact alike_W v w
      · refine Bool.or_eq_true_iff.mpr (.inl (List.all_eq_true.mpr fun p hp => ?_))
        rw [List.map_map] at hp
        obtain ⟨w, hw, rfl⟩ := List.mem_map.mp hp
        show headed (pyOf (nw w)) = true
        rw [pyOf_nw]
        cases w with
        | nil => exact absurd rfl (h [] hw)
        | cons l w => rfl
      · exact decide_eq_true (by rw [List.length_map]; exact hl)
    unfold sortD
    rw [i, o]
    show T.ret (isort dLe ((k :: ks).map nw)) = _
    rw [isort_map (f := nw) (le := dLe) (le' := wLe) fun a b => rfl]
theorem sort_items {kv : List (Wd' × Nat)} (hs : kv.length ≤ 100000) : sortD (kv.map prD) = .ret ((isort pLe kv).map prD) := by
  cases kv with
  | nil => rfl
  | cons k ks =>
  have i : isEmptyTup ((k :: ks).map prD) = false := rfl
  have o : okSort ((k :: ks).map prD) = true := by
    unfold okSort
    refine Bool.and_eq_true_iff.mpr ⟨Bool.and_eq_true_iff.mpr ⟨Bool.and_eq_true_iff.mpr ⟨?_, ?_⟩, ?_⟩, ?_⟩
    · refine List.all_eq_true.mpr fun d hd => ?_
      obtain ⟨p, _, rfl⟩ := List.mem_map.mp hd
      exact py_ok (py_p p) (by decide)
    · refine List.all_eq_true.mpr fun p hp => List.all_eq_true.mpr fun q hq => ?_
      rw [List.map_map] at hp hq
      obtain ⟨v, _, rfl⟩ := List.mem_map.mp hp
      obtain ⟨w, _, rfl⟩ := List.mem_map.mp hq
      show alike (pyOf (prD v)) (pyOf (prD w)) = true
      rw [pyOf_pr, pyOf_pr]
      exact alike_P v w
    · refine Bool.or_eq_true_iff.mpr (.inl (List.all_eq_true.mpr fun p hp => ?_))
      rw [List.map_map] at hp
      obtain ⟨w, hw, rfl⟩ := List.mem_map.mp hp
      show headed (pyOf (prD w)) = true
      rw [pyOf_pr]
      rfl
    · exact decide_eq_true (by rw [List.length_map]; exact hs)
  unfold sortD
  rw [i, o]
  show T.ret (isort dLe ((k :: ks).map prD)) = _
  rw [isort_map (f := prD) (le := dLe) (le' := pLe) fun a b => rfl]
end Pd

namespace Pd
open PySem L2 PySem.Spec PyProof.Rows

/-! lacings: what is told. -/
theorem dget_val {kv : List (Wd' × Nat)} {k : Wd'} (h : k ∈ kv.map (·.1)) : dGet (.dic (dD kv)) (nw k) = .ret (nI (getW kv k)) := by
  unfold dGet
  dsimp only
  rw [key_nw, at_some h]
theorem mem_tell {kv : List (Wd' × Nat)} {p : Wd' × Nat} (h : p ∈ tellW kv) : p.1 ∈ kv.map (·.1) ∧ p.2 = getW kv p.1 := by
  obtain ⟨w, hw, rfl⟩ := List.mem_map.mp h
  exact ⟨(isort_perm wLe_total _).mem_iff.mp hw, rfl⟩
@[irreducible] def lcE : Rho → T D := eTup (aCons (eVar 4) (aCons (eBin dGet (eVar 3) (eVar 4)) aNil))
@[irreducible] def lcK : Rho → T (List D) := lCa bSortedD (aCons (eVar 3) aNil)
@[irreducible] def lcM : Rho → T D := eCall 2 hmF (aCons (eCa bLen (aCons (eVar 1) aNil)) (aCons (eCa bLen (aCons (eVar 2) aNil)) aNil))
theorem lacings_eq : m_lacings = bSeqL (sExpr (eCall 2 nwF (aCons (eVar 0) (aCons (eVar 1) aNil)))) (bSeqL (sExpr (eCall 2 nwF (aCons (eVar 0) (aCons (eVar 2) aNil)))) (bSeqL (sIf (eTest (eBin opGt lcM (eC (.int 400)))) sFail bNil) (bSeqL (sSet 3 (eCall 2 lcF (aCons (eVar 1) (aCons (eVar 2) aNil)))) (lComp [4] (iLst (eL lcK)) (gNm 4) yesT lcE)))) := by
  unfold m_lacings lcE lcK lcM nwF lcF hmF
  rfl
section
variable {a b : Wd'} {c : Nat} {kv : List (Wd' × Nat)} {x0 x1 x2 x4 : Ent}
theorem lcE_val {p : Wd' × Nat} (h : p ∈ tellW kv) : lcE [x0, x1, x2, .val (.dic (dD kv)), .val (nw p.1)] = .ret (prD p) := by
  obtain ⟨m, e⟩ := mem_tell h
  have g : eBin dGet (eVar 3) (eVar 4) [x0, x1, x2, .val (.dic (dD kv)), .val (nw p.1)] = .ret (nI p.2) := by
    show dGet (.dic (dD kv)) (nw p.1) = _
    rw [dget_val m, e]
  unfold lcE
  exact tup2_val (u := eVar 4) (p := nw p.1) rfl g
def fT (kv : List (Wd' × Nat)) (d : D) : D := match lcE [.un, .un, .un, .val (.dic (dD kv)), .val d] with
  | .ret x => x
  | _ => .non
theorem lcK_val (hs : kv.length ≤ 100000) (h : kv.map (·.1) = [[]] ∨ ∀ w ∈ kv.map (·.1), w ≠ []) : lcK [x0, x1, x2, .val (.dic (dD kv)), x4] = .ret ((tellW kv).map fun p => nw p.1) := by
  have e := sort_keys hs h
  unfold lcK
  show bSortedD [.dic (dD kv)] = _
  exact e
theorem lcC_val (hs : kv.length ≤ 100000) (h : kv.map (·.1) = [[]] ∨ ∀ w ∈ kv.map (·.1), w ≠ []) : lComp [4] (iLst (eL lcK)) (gNm 4) yesT lcE [.val (.int c), .val (nw a), .val (nw b), .val (.dic (dD kv)), .un] = .ret ((tellW kv).map prD) := by
  have k := lcK_val (x0 := .val (.int c)) (x1 := .val (nw a)) (x2 := .val (nw b)) (x4 := .un) hs h
  have ln : (tellW kv).length ≤ 100000 := by
    unfold tellW
    rw [List.length_map, (isort_perm wLe_total _).length_eq, List.length_map]
    exact hs
  unfold lComp iLst eL
  rw [k]
  show compT (gNm 4) yesT lcE [.val (.int c), .val (nw a), .val (nw b), .val (.dic (dD kv)), .un] ((tellW kv).map fun p => nw p.1) [] = _
  have f : ∀ p ∈ tellW kv, fT kv (nw p.1) = prD p := fun p hp => by
    unfold fT
    rw [lcE_val hp]
  rw [compT_map (f := fT kv) (by rw [List.length_map]; simpa using ln) fun d hd => ?_]
  · rw [List.nil_append, List.map_map]
    congr 1
    exact List.map_congr_left fun p hp => f p hp
  · obtain ⟨p, hp, rfl⟩ := List.mem_map.mp hd
    rw [f p hp]
    exact lcE_val hp
end
@[irreducible] def laF : List D → T (List D) := f_lacings
theorem isWd_len {c : Nat} {ls : Wd'} (h : isWd c ls = true) : ∀ l ∈ ls, l.length = c ∧ ∀ p ∈ l, p ≤ 8 := fun l hl => by
  have q := isLt_of (List.all_eq_true.mp (Bool.and_eq_true_iff.mp h).2 l hl)
  exact ⟨q.1, q.2⟩
theorem rep_shape {a b : Wd'} {kv : List (Wd' × Nat)} (r : Rep kv (Lw a b)) : kv.map (·.1) = [[]] ∨ ∀ w ∈ kv.map (·.1), w ≠ [] := by
  by_cases z : 0 < a.length + b.length
  · exact .inr fun w hw => ((lac_all (P := fun _ => True) (I := a.length) (J := b.length) (fun _ _ => trivial) (fun _ _ => trivial) (fun _ _ _ _ => trivial) a.length b.length (Nat.le_refl _) (Nat.le_refl _) w ((r.mem w).mp hw)).2.1 z)
  · have ea : a = [] := List.length_eq_zero_iff.mp (by omega)
    have eb : b = [] := List.length_eq_zero_iff.mp (by omega)
    subst ea eb
    have e : Lw [] [] = [[]] := rfl
    left
    have m : ∀ w, w ∈ kv.map (·.1) ↔ w = [] := fun w => by rw [r.mem, e]; exact List.mem_singleton
    have l := r.len
    rw [e] at l
    cases kv with
    | nil => exact absurd ((m []).mpr rfl) (List.not_mem_nil)
    | cons p t =>
      have : t = [] := by simpa using l
      subst this
      have := (m p.1).mp (by simp)
      simp [this]
theorem Lw_few (a b : Wd') (ha : a.length ≤ 4) (hb : b.length ≤ 3) : (Lw a b).length ≤ 129 := lacA_len a b ha hb
theorem lacings_all {a b : Wd'} {c : Nat} (ha : isWd c a = true) (hb : isWd c b = true) (h3 : c ≤ 3) (la : a.length ≤ 4) (lb : b.length ≤ 3) : T.all (fun ds => ∃ kv, Rep kv (Lw a b) ∧ ds = (tellW kv).map prD) (laF [.int (c : Int), nw a, nw b]) := by
  unfold laF f_lacings runL
  rw [lacings_eq]
  have n1 := nwF_val ha h3
  have n2 := nwF_val hb h3
  have s1 : sExpr (eCall 2 nwF (aCons (eVar 0) (aCons (eVar 1) aNil))) [.val (.int (c : Int)), .val (nw a), .val (nw b), .un, .un] = .ret (.nx [.val (.int (c : Int)), .val (nw a), .val (nw b), .un, .un]) := by
    simp only [sExpr, eCall, aCons, aNil, eVar, List.length_cons, List.length_nil, List.getElem?_cons_succ, List.getElem?_cons_zero, T.bind, BEq.rfl, cond, n1]
  have s2 : sExpr (eCall 2 nwF (aCons (eVar 0) (aCons (eVar 2) aNil))) [.val (.int (c : Int)), .val (nw a), .val (nw b), .un, .un] = .ret (.nx [.val (.int (c : Int)), .val (nw a), .val (nw b), .un, .un]) := by
    simp only [sExpr, eCall, aCons, aNil, eVar, List.length_cons, List.length_nil, List.getElem?_cons_succ, List.getElem?_cons_zero, T.bind, BEq.rfl, cond, n2]
  have lA : bLen [nw a] = .ret (nI a.length) := by
    show T.ret (D.int ((a.map nt).length : Int)) = _
    rw [List.length_map]
    rfl
  have lB : bLen [nw b] = .ret (nI b.length) := by
    show T.ret (D.int ((b.map nt).length : Int)) = _
    rw [List.length_map]
    rfl
  have hm := hm_val la lb
  have few := Lw_few a b la lb
  have s3 : sIf (eTest (eBin opGt lcM (eC (.int 400)))) sFail bNil [.val (.int (c : Int)), .val (nw a), .val (nw b), .un, .un] = .ret (.nx [.val (.int (c : Int)), .val (nw a), .val (nw b), .un, .un]) := by
    have m : lcM [.val (.int (c : Int)), .val (nw a), .val (nw b), .un, .un] = .ret (nI (Lw a b).length) := by
      unfold lcM
      simp only [eCall, eCa, aCons, aNil, eVar, List.length_cons, List.length_nil, List.getElem?_cons_succ, List.getElem?_cons_zero, T.bind, BEq.rfl, cond, lA, lB, hm, lw_len]
    have g : opGt (nI (Lw a b).length) (.int 400) = .ret (.bl false) := by
      show T.ret (D.bl (decide ((400 : Int) < ((Lw a b).length : Int)))) = _
      rw [decide_eq_false (by omega)]
    simp only [sIf, eTest, eBin, m, eC, T.bind, g, asB, cond, bNil]
  refine seqL_nx (all_eq s1 ⟨_, rfl, seqL_nx (all_eq s2 ⟨_, rfl, seqL_nx (all_eq s3 ⟨_, rfl, seqL_nx ?_⟩)⟩)⟩)
  refine T.all_bind.mpr (call2_all (all_eq (a := nw a) rfl (all_eq (a := nw b) rfl (T.all_mono (fun d hd => ?_) (laced_all la lb fun l hl => by have := (isWd_len ha l hl).1; omega)))))
  obtain ⟨kv, rfl, r⟩ := hd
  refine ⟨_, rfl, ?_⟩
  have kl := r.len
  exact all_eq (lcC_val (c := c) (a := a) (b := b) (by omega) (rep_shape r)) ⟨kv, r, rfl⟩

/-! The law's own lacings. -/
theorem ints_nI : ∀ l : List Nat, intsOf (l.map nI) = some (l.map fun n : Nat => (n : Int))
  | [] => rfl
  | n :: l => by
    show (match intsOf (l.map nI) with | some bs => some ((n : Int) :: bs) | none => none) = _
    rw [ints_nI l]
    rfl
theorem cont_nI (p : Nat) : ∀ l : List Nat, (l.map fun n : Nat => (n : Int)).contains (p : Int) = l.contains p
  | [] => rfl
  | n :: l => by
    show ((p : Int) == (n : Int) || (l.map fun n : Nat => (n : Int)).contains (p : Int)) = (p == n || l.contains p)
    rw [cont_nI p l]
    congr 1
    by_cases h : p = n
    · subst h; simp
    · have : ((p : Int) == (n : Int)) = false := by
        rw [beq_eq_false_iff_ne]
        omega
      rw [this, beq_eq_false_iff_ne.mpr h]
theorem ix_nI (p : Nat) : ∀ l : List Nat, ixOf (p : Int) (l.map fun n : Nat => (n : Int)) = ixF p l
  | [] => rfl
  | n :: l => by
    show (if (n : Int) = (p : Int) then some 0 else (ixOf (p : Int) (l.map fun n : Nat => (n : Int))).map (· + 1)) = if n = p then some 0 else (ixF p l).map (· + 1)
    rw [ix_nI p l]
    by_cases h : n = p
    · rw [if_pos h, if_pos (by omega)]
    · rw [if_neg h, if_neg (by omega)]
theorem cont_ix (p : Nat) : ∀ l : List Nat, l.contains p = (ixF p l).isSome
  | [] => rfl
  | n :: l => by
    show (p == n || l.contains p) = (if n = p then some 0 else (ixF p l).map (· + 1)).isSome
    rw [cont_ix p l]
    by_cases h : n = p
    · subst h; simp
    · rw [if_neg h, beq_eq_false_iff_ne.mpr fun e => h e.symm, Bool.false_or, Option.isSome_map]
theorem ixF_lt {p : Nat} : ∀ {l : List Nat} {i : Nat}, ixF p l = some i → i < l.length
  | [], _, h => by cases h
  | n :: l, i, h => by
    unfold ixF at h
    split at h
    · cases h; exact Nat.succ_pos _
    · obtain ⟨j, hj, rfl⟩ := Option.map_eq_some_iff.mp h
      have := ixF_lt hj
      show j + 1 < l.length + 1
      omega
theorem in_val (p : Nat) (l : List Nat) : opIn (nI p) (nl l) = .ret (.bl (l.contains p)) := by
  show (match intsOf (l.map nI) with | some ns => T.ret (D.bl (ns.contains (p : Int))) | none => .fail) = _
  rw [ints_nI, ← cont_nI]
theorem ni_val (p : Nat) (l : List Nat) : opNotIn (nI p) (nl l) = .ret (.bl (!l.contains p)) := by
  show (match intsOf (l.map nI) with | some ns => T.ret (D.bl (!ns.contains (p : Int))) | none => .fail) = _
  rw [ints_nI, ← cont_nI]
theorem idx_val {ρ : Rho} {ma mb : Rho → T D} {l : List Nat} {p i : Nat} (ha : ma ρ = .ret (nl l)) (hb : mb ρ = .ret (nI p)) (h : ixF p l = some i) : eIdx ma mb ρ = .ret (nI i) := by
  unfold eIdx
  rw [ha]
  show ((mb ρ).bind fun y => match y with
    | .int k => match intsOf (l.map nI) with
      | some ns => match ixOf k ns with
        | some j => T.ret (D.int (j : Int))
        | none => .fail
      | none => .fail
    | _ => .fail) = _
  rw [hb]
  show (match intsOf (l.map nI) with
      | some ns => match ixOf (p : Int) ns with
        | some j => T.ret (D.int (j : Int))
        | none => .fail
      | none => .fail) = _
  rw [ints_nI]
  show (match ixOf (p : Int) (l.map fun n : Nat => (n : Int)) with
        | some j => T.ret (D.int (j : Int))
        | none => .fail) = _
  rw [ix_nI, h]
  rfl
theorem ix_word {a : Wd'} {i : Nat} (h : i < a.length) : ixD (nw a) (nI i) = .ret (nt (ltA a i)) := by
  refine ix_at (ds := a.map nt) ?_
  rw [List.getElem?_map, List.getElem?_eq_getElem h]
  show some (nt a[i]) = some (nt (a.getD i []))
  rw [List.getD_eq_getElem?_getD, List.getElem?_eq_getElem h]
  rfl
/-- tuple([.. for .. in zip(..)]) of two letters -/
theorem tuple_addE {i j : Nat} {ma mb me : Rho → T D} {ρ : Rho} {l m : List Nat} (hp : ma ρ = .ret (nt l)) (hq : mb ρ = .ret (nt m)) (hl : l.length ≤ 1000) (h : ∀ a b : Nat, me (((wipeR ρ [i, j]).set i (.val (nI a))).set j (.val (nI b))) = opAdd (nI a) (nI b)) : eCa bTuple (aCons (eL (lComp [i, j] (iRg zipT (aCons ma (aCons mb aNil))) (gTp 2 (gsCons (gNm i) (gsCons (gNm j) gsNil))) yesT me)) aNil) ρ = .ret (nt (addL l m)) := by
  have e := comp_add (ρ := wipeR ρ [i, j]) (i := i) (j := j) (me := me) (l := l) (m := m) hl h
  have e2 : iRg zipT (aCons ma (aCons mb aNil)) ρ = .ret (zipD (l.map nI) (m.map nI)) := by
    simp only [iRg, aCons, aNil, hp, hq, T.bind, nt, zipT]
  have e3 : lComp [i, j] (iRg zipT (aCons ma (aCons mb aNil))) (gTp 2 (gsCons (gNm i) (gsCons (gNm j) gsNil))) yesT me ρ = .ret ((addL l m).map nI) := by
    unfold lComp
    rw [e2]
    exact e
  have s := small_of (ds := (addL l m).map nI) (by rw [List.length_map, addL_len]; omega)
  simp only [eCa, aCons, aNil, eL, e3, T.bind, bTuple, s, cond]
  rfl
@[irreducible] def atF : List D → T D := f__law_at
theorem at_val {a b : Wd'} {near far : List Nat} {p : Nat} (hn : near.length = a.length) (hf : far.length = b.length) (hc : (near.contains p || far.contains p) = true) (ha : ∀ l ∈ a, l.length ≤ 1000) : atF [nw a, nl near, nl far, nw b, nI p] = .ret (nt (apS a b (ixF p near, ixF p far))) := by
  have cn := cont_ix p near
  have cf := cont_ix p far
  unfold atF f__law_at runB m__law_at
  show T.bind (bSeq _ _ [.val (nw a), .val (nl near), .val (nl far), .val (nw b), .val (nI p), .un, .un]) _ = _
  have t1 : eTest (eBin opNotIn (eVar 4) (eVar 2)) [.val (nw a), .val (nl near), .val (nl far), .val (nw b), .val (nI p), .un, .un] = .ret (!far.contains p) := by
    simp only [eTest, eBin, eVar, List.getElem?_cons_succ, List.getElem?_cons_zero, T.bind, ni_val, asB]
  have t2 : eTest (eBin opNotIn (eVar 4) (eVar 1)) [.val (nw a), .val (nl near), .val (nl far), .val (nw b), .val (nI p), .un, .un] = .ret (!near.contains p) := by
    simp only [eTest, eBin, eVar, List.getElem?_cons_succ, List.getElem?_cons_zero, T.bind, ni_val, asB]
  cases e1 : ixF p near with
  | none =>
    cases e2 : ixF p far with
    | none =>
      rw [e1] at cn
      rw [e2] at cf
      rw [cn, cf] at hc
      exact absurd hc (by decide)
    | some j =>
      rw [e1] at cn
      rw [e2] at cf
      rw [cf] at t1
      rw [cn] at t2
      have ij := idx_val (ρ := [.val (nw a), .val (nl near), .val (nl far), .val (nw b), .val (nI p), .un, .un]) (ma := eVar 2) (mb := eVar 4) (l := far) (p := p) rfl rfl e2
      have iw := ix_word (a := b) (i := j) (by have := ixF_lt e2; omega)
      simp only [bSeq, sIf, t1, t2, T.bind, Option.isSome, Bool.not_true, Bool.not_false, cond, bNil, sRet, eBin, ij, eVar, List.getElem?_cons_succ, List.getElem?_cons_zero, iw]
      rfl
  | some i =>
    have ii := idx_val (ρ := [.val (nw a), .val (nl near), .val (nl far), .val (nw b), .val (nI p), .un, .un]) (ma := eVar 1) (mb := eVar 4) (l := near) (p := p) rfl rfl e1
    have iw := ix_word (a := a) (i := i) (by have := ixF_lt e1; omega)
    rw [e1] at cn
    rw [cn] at t2
    cases e2 : ixF p far with
    | none =>
      rw [e2] at cf
      rw [cf] at t1
      simp only [bSeq, sIf, t1, T.bind, Option.isSome, Bool.not_false, cond, sRet, eBin, ii, eVar, List.getElem?_cons_succ, List.getElem?_cons_zero, iw]
      rfl
    | some j =>
      rw [e2] at cf
      rw [cf] at t1
      have ij := idx_val (ρ := [.val (nw a), .val (nl near), .val (nl far), .val (nw b), .val (nI p), .un, .un]) (ma := eVar 2) (mb := eVar 4) (l := far) (p := p) rfl rfl e2
      have jw := ix_word (a := b) (i := j) (by have := ixF_lt e2; omega)
      have la : (ltA a i).length ≤ 1000 := by
        have hi : i < a.length := by have := ixF_lt e1; omega
        unfold ltA
        rw [List.getD_eq_getElem?_getD, List.getElem?_eq_getElem hi]
        exact ha _ (List.getElem_mem hi)
      have t := tuple_addE (ρ := [.val (nw a), .val (nl near), .val (nl far), .val (nw b), .val (nI p), .un, .un]) (i := 5) (j := 6) (ma := eBin ixD (eVar 0) (eIdx (eVar 1) (eVar 4))) (mb := eBin ixD (eVar 3) (eIdx (eVar 2) (eVar 4))) (me := eBin opAdd (eVar 5) (eVar 6)) (l := ltA a i) (m := ltA b j) (by
        simp only [eBin, ii, eVar, List.getElem?_cons_succ, List.getElem?_cons_zero, T.bind, iw]) (by
        simp only [eBin, ij, eVar, List.getElem?_cons_succ, List.getElem?_cons_zero, T.bind, jw]) la fun x y => rfl
      generalize eCa bTuple (aCons (eL (lComp [5, 6] (iRg zipT (aCons (eBin ixD (eVar 0) (eIdx (eVar 1) (eVar 4))) (aCons (eBin ixD (eVar 3) (eIdx (eVar 2) (eVar 4))) aNil))) (gTp 2 (gsCons (gNm 5) (gsCons (gNm 6) gsNil))) yesT (eBin opAdd (eVar 5) (eVar 6)))) aNil) = X at t ⊢
      simp only [bSeq, sIf, t1, t2, T.bind, Option.isSome, Bool.not_true, cond, bNil, sRet, t]
      rfl
/-! the loops -/
section
variable {β : Type}
theorem for_rep {N : Nat} {body : D → Rho → T Out} {g : β → D} {F : β → List Wd'} {S : List (Wd' × Nat) → Rho → Prop} : ∀ {xs : List β} {l : List Wd'} {kv : List (Wd' × Nat)} {ρ : Rho}, (∀ x ∈ xs, ∀ l kv ρ, Rep kv l → S kv ρ → l.length + (F x).length ≤ N → (body (g x) ρ).all fun o => ∃ kv' ρ', o = .nx ρ' ∧ Rep kv' (l ++ F x) ∧ S kv' ρ') → Rep kv l → S kv ρ → l.length + (xs.flatMap F).length ≤ N → (forT body (xs.map g) ρ).all fun o => ∃ kv' ρ', o = .nx ρ' ∧ Rep kv' (l ++ xs.flatMap F) ∧ S kv' ρ'
  | [], l, kv, ρ, _, r, s, _ => ⟨kv, ρ, rfl, by simpa using r, s⟩
  | x :: xs, l, kv, ρ, h, r, s, n => by
    rw [List.flatMap_cons, List.length_append] at n
    refine T.all_bind.mpr (T.all_mono (fun o ho => ?_) (h x List.mem_cons_self l kv ρ r s (by omega)))
    obtain ⟨kv', ρ', rfl, r', s'⟩ := ho
    show T.all _ (forT body (xs.map g) ρ')
    have t := for_rep (N := N) (body := body) (g := g) (F := F) (S := S) (xs := xs) (fun y hy => h y (List.mem_cons_of_mem _ hy)) r' s' (by rw [List.length_append]; omega)
    refine T.all_mono (fun o ho => ?_) t
    obtain ⟨kv2, ρ2, rfl, r2, s2⟩ := ho
    rw [List.append_assoc] at r2
    exact ⟨kv2, ρ2, rfl, r2, s2⟩
end

/-! The law's own lacings: its loops. -/
@[irreducible] def ltc : Rho → T (List D) := lComp [7] (iRg rng1 (aCons (eVar 3) aNil)) (gNm 7) yesT (eOr (eBin opIn (eVar 7) (eVar 4)) (eBin opIn (eVar 7) (eVar 5)))
@[irreducible] def ltw : Rho → T (List D) := lComp [7] (iRg rng1 (aCons (eVar 3) aNil)) (gNm 7) yesT (eCall 5 atF (aCons (eVar 0) (aCons (eVar 4) (aCons (eVar 5) (aCons (eVar 1) (aCons (eVar 7) aNil))))))
@[irreducible] def ltI : Rho → T Out := sIf (eTest (eCa bAll (aCons (eL ltc) aNil))) (bSeq (sSet 6 (eCa bTuple (aCons (eL ltw) aNil))) (sPut 2 (eVar 6) (eBin opAdd (getOwn 2 (eVar 6) (eC (.int 0))) (eC (.int 1))))) bNil
@[irreducible] def ltJ : Rho → T Out := sFor (iLst (eCall 2 chF (aCons (eVar 3) (aCons (eCa bLen (aCons (eVar 1) aNil)) aNil)))) (gNm 5) ltI
@[irreducible] def ltK : Rho → T Out := sFor (iLst (eCall 2 chF (aCons (eVar 3) (aCons (eCa bLen (aCons (eVar 0) aNil)) aNil)))) (gNm 4) ltJ
@[irreducible] def ltR : Rho → T (List D) := iRg rng2 (aCons (eCa bMax2 (aCons (eCa bLen (aCons (eVar 0) aNil)) (aCons (eCa bLen (aCons (eVar 1) aNil)) aNil))) (aCons (eBin opAdd (eBin opAdd (eCa bLen (aCons (eVar 0) aNil)) (eCa bLen (aCons (eVar 1) aNil))) (eC (.int 1))) aNil))
theorem laced_eq : m__law_laced = bSeq (sOwnD 2) (bSeq (sFor ltR (gNm 3) ltK) (bFreezeD 2 (sRet (eVar 2)))) := by
  unfold m__law_laced ltR ltK ltJ ltI ltc ltw chF atF
  rfl
theorem boolsM {α : Type} (c : α → Bool) : ∀ l : List α, bools (l.map fun p => D.bl (c p)) = some (l.map c)
  | [] => rfl
  | p :: l => by
    show (match bools (l.map fun p => D.bl (c p)) with | some bs => some (c p :: bs) | none => none) = _
    rw [boolsM c l]
    rfl
def hitB (near far : List Nat) (p : Nat) : Bool := near.contains p || far.contains p
section
variable {a b : Wd'} {near far : List Nat} {m : Nat} {x2 x6 x7 : Ent}
theorem ltc_val (h : m ≤ 1000) : ltc [.val (nw a), .val (nw b), x2, .val (nI m), .val (nl near), .val (nl far), x6, x7] = .ret ((List.range m).map fun p => D.bl (hitB near far p)) := by
  unfold ltc lComp
  rw [rng_val (m := eVar 3) (k := m) rfl (by omega)]
  show compT (gNm 7) yesT _ [.val (nw a), .val (nw b), x2, .val (nI m), .val (nl near), .val (nl far), x6, .un] (upto 0 m) [] = _
  rw [upto_range, compT_map (f := fun d => D.bl (hitB near far (unI d))) (by simp; omega) fun d hd => ?_]
  · rw [List.nil_append, List.map_map]
    congr 1
  · obtain ⟨p, _, rfl⟩ := List.mem_map.mp hd
    rw [un_I]
    have e1 : eBin opIn (eVar 7) (eVar 4) [.val (nw a), .val (nw b), x2, .val (nI m), .val (nl near), .val (nl far), x6, .val (nI p)] = .ret (.bl (near.contains p)) := in_val p near
    have e2 : eBin opIn (eVar 7) (eVar 5) [.val (nw a), .val (nw b), x2, .val (nI m), .val (nl near), .val (nl far), x6, .val (nI p)] = .ret (.bl (far.contains p)) := in_val p far
    show eOr (eBin opIn (eVar 7) (eVar 4)) (eBin opIn (eVar 7) (eVar 5)) [.val (nw a), .val (nw b), x2, .val (nI m), .val (nl near), .val (nl far), x6, .val (nI p)] = _
    unfold eOr hitB
    rw [e1, e2]
    cases near.contains p <;> rfl
theorem ltw_val (h : m ≤ 1000) (hn : near.length = a.length) (hf : far.length = b.length) (ha : ∀ l ∈ a, l.length ≤ 1000) (hc : (List.range m).all (hitB near far) = true) : ltw [.val (nw a), .val (nw b), x2, .val (nI m), .val (nl near), .val (nl far), x6, x7] = .ret (((List.range m).map fun p => apS a b (ixF p near, ixF p far)).map nt) := by
  unfold ltw lComp
  rw [rng_val (m := eVar 3) (k := m) rfl (by omega)]
  show compT (gNm 7) yesT _ [.val (nw a), .val (nw b), x2, .val (nI m), .val (nl near), .val (nl far), x6, .un] (upto 0 m) [] = _
  rw [upto_range, compT_map (f := fun d => nt (apS a b (ixF (unI d) near, ixF (unI d) far))) (by simp; omega) fun d hd => ?_]
  · rw [List.nil_append, List.map_map, List.map_map]
    congr 1
  · obtain ⟨p, hp, rfl⟩ := List.mem_map.mp hd
    rw [un_I]
    have v := at_val (a := a) (b := b) (near := near) (far := far) (p := p) hn hf (List.all_eq_true.mp hc p hp) ha
    show eCall 5 atF (aCons (eVar 0) (aCons (eVar 4) (aCons (eVar 5) (aCons (eVar 1) (aCons (eVar 7) aNil))))) [.val (nw a), .val (nw b), x2, .val (nI m), .val (nl near), .val (nl far), x6, .val (nI p)] = _
    simp only [eCall, aCons, aNil, eVar, List.length_cons, List.length_nil, List.getElem?_cons_succ, List.getElem?_cons_zero, T.bind, BEq.rfl, cond, v]
def fI (a b : Wd') (m : Nat) (near far : List Nat) : List Wd' := if (List.range m).all (hitB near far) then [(List.range m).map fun p => apS a b (ixF p near, ixF p far)] else []
def fJ (a b : Wd') (m : Nat) (near : List Nat) : List Wd' := (chs m b.length).flatMap (fI a b m near)
def fK (a b : Wd') (m : Nat) : List Wd' := (chs m a.length).flatMap (fJ a b m)
theorem fK_eq (a b : Wd') (m : Nat) : fK a b m = (llm m a.length b.length).map (List.map (apS a b)) := by
  unfold fK fJ fI llm
  rw [List.map_flatMap]
  congr 1
  funext near
  rw [List.map_flatMap]
  congr 1
  funext far
  show (if (List.range m).all (hitB near far) then _ else _) = List.map (List.map (apS a b)) (if (List.range m).all (hitB near far) then _ else _)
  split
  · simp
  · rfl
theorem Ll_eq (a b : Wd') : Ll a b = (List.range' (max a.length b.length) (a.length + b.length + 1 - max a.length b.length)).flatMap (fK a b) := by
  unfold Ll llg
  rw [List.map_flatMap]
  congr 1
  funext m
  exact (fK_eq a b m).symm
theorem Ll_len {a b : Wd'} (ha : a.length ≤ 4) (hb : b.length ≤ 2) (hs : a.length + b.length ≤ 5) : (Ll a b).length ≤ 129 := by
  rw [← (Lw_ll ha hb hs).length_eq]
  exact Lw_few a b ha (by omega)
/-- where the loops stand -/
def S5 (a b : Wd') (m : Nat) (near : List Nat) (kv : List (Wd' × Nat)) (ρ : Rho) : Prop := ∃ y5 y6, ρ = [.val (nw a), .val (nw b), .ownD (dD kv), .val (nI m), .val (nl near), y5, y6, .un]
def S4 (a b : Wd') (m : Nat) (kv : List (Wd' × Nat)) (ρ : Rho) : Prop := ∃ y4 y5 y6, ρ = [.val (nw a), .val (nw b), .ownD (dD kv), .val (nI m), y4, y5, y6, .un]
def S3 (a b : Wd') (kv : List (Wd' × Nat)) (ρ : Rho) : Prop := ∃ y3 y4 y5 y6, ρ = [.val (nw a), .val (nw b), .ownD (dD kv), y3, y4, y5, y6, .un]
variable {kv : List (Wd' × Nat)} {l : List Wd'} {ρ : Rho}
theorem ltI_all {y6 : Ent} (h : m ≤ 1000) (hn : near.length = a.length) (hf : far.length = b.length) (ha : ∀ l ∈ a, l.length ≤ 1000) (r : Rep kv l) (hl : l.length ≤ 1000) : T.all (fun o => ∃ kv' ρ', o = .nx ρ' ∧ Rep kv' (l ++ fI a b m near far) ∧ S5 a b m near kv' ρ') (ltI [.val (nw a), .val (nw b), .ownD (dD kv), .val (nI m), .val (nl near), .val (nl far), y6, .un]) := by
  have c := ltc_val (a := a) (b := b) (near := near) (far := far) (m := m) (x2 := .ownD (dD kv)) (x6 := y6) (x7 := .un) h
  have t : eTest (eCa bAll (aCons (eL ltc) aNil)) [.val (nw a), .val (nw b), .ownD (dD kv), .val (nI m), .val (nl near), .val (nl far), y6, .un] = .ret ((List.range m).all (hitB near far)) := by
    simp only [eTest, eCa, aCons, aNil, eL, c, T.bind, bAll, boolsM (hitB near far), asB, List.all_map]
    rfl
  unfold ltI sIf
  rw [t]
  unfold fI
  cases q : (List.range m).all (hitB near far) with
  | false =>
    exact ⟨kv, _, rfl, by simpa using r, _, _, rfl⟩
  | true =>
    have w := ltw_val (a := a) (b := b) (near := near) (far := far) (m := m) (x2 := .ownD (dD kv)) (x6 := y6) (x7 := .un) h hn hf ha q
    have sm : small (((List.range m).map fun p => apS a b (ixF p near, ixF p far)).map nt) = true := small_of (by simp; omega)
    generalize hw : (List.range m).map (fun p => apS a b (ixF p near, ixF p far)) = u at w sm ⊢
    have s1 : sSet 6 (eCa bTuple (aCons (eL ltw) aNil)) [.val (nw a), .val (nw b), .ownD (dD kv), .val (nI m), .val (nl near), .val (nl far), y6, .un] = .ret (.nx [.val (nw a), .val (nw b), .ownD (dD kv), .val (nI m), .val (nl near), .val (nl far), .val (nw u), .un]) := by
      simp only [sSet, eCa, aCons, aNil, eL, w, T.bind, bTuple]
      rfl
    have kl := r.len
    have p := put_add (ρ := [.val (nw a), .val (nw b), .ownD (dD kv), .val (nI m), .val (nl near), .val (nl far), .val (nw u), .un]) (i := 2) (j := 6) (kv := kv) (k := u) (n := 1) (m := eC (.int 1)) rfl rfl rfl (by omega)
    show T.all _ (bSeq _ _ _)
    refine seq_nx (all_eq s1 ⟨_, rfl, all_eq p ⟨_, _, rfl, ?_, _, _, rfl⟩⟩)
    exact r.add u (n := 1) Nat.one_pos
theorem len1 {ρ : Rho} {i : Nat} {a : Wd'} (h : ρ[i]? = some (.val (nw a))) : eCa bLen (aCons (eVar i) aNil) ρ = .ret (nI a.length) := by
  simp only [eCa, aCons, aNil, eVar, h, T.bind]
  show T.ret (D.int ((a.map nt).length : Int)) = _
  rw [List.length_map]
  rfl
theorem ltJ_all {y5 y6 : Ent} (h : m ≤ 5) (h3 : b.length ≤ 3) (hn : near.length = a.length) (ha : ∀ l ∈ a, l.length ≤ 1000) (r : Rep kv l) (hl : l.length + (fJ a b m near).length ≤ 1000) : T.all (fun o => ∃ kv' ρ', o = .nx ρ' ∧ Rep kv' (l ++ fJ a b m near) ∧ S4 a b m kv' ρ') (ltJ [.val (nw a), .val (nw b), .ownD (dD kv), .val (nI m), .val (nl near), y5, y6, .un]) := by
  unfold ltJ
  refine T.all_bind.mpr (T.all_bind.mpr (call2_all (all_eq (a := nI m) rfl (all_eq (len1 (a := b) rfl) (T.all_mono (fun d hd => ?_) (ch_all h (by omega)))))))
  subst hd
  show T.all _ (forT _ ((chs m b.length).map nl) [.val (nw a), .val (nw b), .ownD (dD kv), .val (nI m), .val (nl near), y5, y6, .un])
  refine T.all_mono (fun o ho => ?_) (for_rep (N := 1000) (g := nl) (F := fI a b m near) (S := S5 a b m near) (fun far hfar l kv ρ r s n => ?_) r ⟨y5, y6, rfl⟩ hl)
  · obtain ⟨kv', ρ', rfl, r', y5, y6, rfl⟩ := ho
    exact ⟨kv', _, rfl, r', _, _, _, rfl⟩
  · obtain ⟨z5, z6, rfl⟩ := s
    exact ltI_all (by omega) hn (chs_len hfar) ha r (by omega)
theorem ltK_all {y4 y5 y6 : Ent} (h : m ≤ 5) (h2 : a.length ≤ 4) (h3 : b.length ≤ 3) (ha : ∀ l ∈ a, l.length ≤ 1000) (r : Rep kv l) (hl : l.length + (fK a b m).length ≤ 1000) : T.all (fun o => ∃ kv' ρ', o = .nx ρ' ∧ Rep kv' (l ++ fK a b m) ∧ S3 a b kv' ρ') (ltK [.val (nw a), .val (nw b), .ownD (dD kv), .val (nI m), y4, y5, y6, .un]) := by
  unfold ltK
  refine T.all_bind.mpr (T.all_bind.mpr (call2_all (all_eq (a := nI m) rfl (all_eq (len1 (a := a) rfl) (T.all_mono (fun d hd => ?_) (ch_all h (by omega)))))))
  subst hd
  show T.all _ (forT _ ((chs m a.length).map nl) [.val (nw a), .val (nw b), .ownD (dD kv), .val (nI m), y4, y5, y6, .un])
  refine T.all_mono (fun o ho => ?_) (for_rep (N := 1000) (g := nl) (F := fJ a b m) (S := S4 a b m) (fun near hnear l kv ρ r s n => ?_) r ⟨y4, y5, y6, rfl⟩ hl)
  · obtain ⟨kv', ρ', rfl, r', y4, y5, y6, rfl⟩ := ho
    exact ⟨kv', _, rfl, r', _, _, _, _, rfl⟩
  · obtain ⟨z4, z5, z6, rfl⟩ := s
    exact ltJ_all h h3 (chs_len hnear) ha r n
theorem ltR_val (h2 : a.length ≤ 4) (h3 : b.length ≤ 3) {x3 x4 x5 x6 x7 : Ent} : ltR [.val (nw a), .val (nw b), x2, x3, x4, x5, x6, x7] = .ret ((List.range' (max a.length b.length) (a.length + b.length + 1 - max a.length b.length)).map nI) := by
  have l0 := len1 (ρ := [.val (nw a), .val (nw b), x2, x3, x4, x5, x6, x7]) (i := 0) (a := a) rfl
  have l1 := len1 (ρ := [.val (nw a), .val (nw b), x2, x3, x4, x5, x6, x7]) (i := 1) (a := b) rfl
  have mx : bMax2 [nI a.length, nI b.length] = .ret (nI (max a.length b.length)) := by
    show T.ret (D.int (if (b.length : Int) > (a.length : Int) then (b.length : Int) else (a.length : Int))) = T.ret (D.int ((max a.length b.length : Nat) : Int))
    congr 2
    split <;> omega
  have ad : eBin opAdd (eBin opAdd (eCa bLen (aCons (eVar 0) aNil)) (eCa bLen (aCons (eVar 1) aNil))) (eC (.int 1)) [.val (nw a), .val (nw b), x2, x3, x4, x5, x6, x7] = .ret (nI (a.length + b.length + 1)) := by
    simp only [eBin, l0, l1, eC, T.bind]
    show T.ret (D.int ((a.length : Int) + (b.length : Int) + 1)) = _
    unfold nI
    congr 2
  have mm : eCa bMax2 (aCons (eCa bLen (aCons (eVar 0) aNil)) (aCons (eCa bLen (aCons (eVar 1) aNil)) aNil)) [.val (nw a), .val (nw b), x2, x3, x4, x5, x6, x7] = .ret (nI (max a.length b.length)) := by
    show T.bind ((eCa bLen (aCons (eVar 0) aNil) _).bind fun d => ((eCa bLen (aCons (eVar 1) aNil) _).bind fun e => T.ret [e]).bind fun ds => T.ret (d :: ds)) bMax2 = _
    rw [l0, l1]
    exact mx
  have g : rng2 [nI (max a.length b.length), nI (a.length + b.length + 1)] = .ret (upto ((max a.length b.length : Nat) : Int) (((a.length + b.length + 1 : Nat) : Int) - ((max a.length b.length : Nat) : Int)).toNat) := by
    have e1 : decide (((a.length + b.length + 1 : Nat) : Int) ≤ 100000) = true := decide_eq_true (by omega)
    have e2 : decide (-100000 ≤ ((a.length + b.length + 1 : Nat) : Int)) = true := decide_eq_true (by omega)
    have e3 : decide (((max a.length b.length : Nat) : Int) ≤ 100000) = true := decide_eq_true (by omega)
    have e4 : decide (-100000 ≤ ((max a.length b.length : Nat) : Int)) = true := decide_eq_true (by omega)
    show cond (decide (((a.length + b.length + 1 : Nat) : Int) ≤ 100000) && decide (-100000 ≤ ((a.length + b.length + 1 : Nat) : Int)) && (decide (((max a.length b.length : Nat) : Int) ≤ 100000) && decide (-100000 ≤ ((max a.length b.length : Nat) : Int)))) (T.ret (upto ((max a.length b.length : Nat) : Int) (((a.length + b.length + 1 : Nat) : Int) - ((max a.length b.length : Nat) : Int)).toNat)) .fail = _
    rw [e1, e2, e3, e4]
    rfl
  rw [show (((a.length + b.length + 1 : Nat) : Int) - ((max a.length b.length : Nat) : Int)).toNat = a.length + b.length + 1 - max a.length b.length by omega, upto_nI] at g
  generalize hX : eCa bMax2 (aCons (eCa bLen (aCons (eVar 0) aNil)) (aCons (eCa bLen (aCons (eVar 1) aNil)) aNil)) = X at mm
  generalize hY : eBin opAdd (eBin opAdd (eCa bLen (aCons (eVar 0) aNil)) (eCa bLen (aCons (eVar 1) aNil))) (eC (.int 1)) = Y at ad
  have q : ∀ ρ : Rho, ltR ρ = iRg rng2 (aCons X (aCons Y aNil)) ρ := fun ρ => by
    rw [← hX, ← hY]
    unfold ltR
    rfl
  have cl : ∀ ρ : Rho, iRg rng2 (aCons X (aCons Y aNil)) ρ = T.bind ((X ρ).bind fun d => ((Y ρ).bind fun e => T.ret [e]).bind fun ds => T.ret (d :: ds)) rng2 := fun ρ => by
    unfold iRg aCons aNil
    cases X ρ <;> rfl
  rw [q, cl, mm, ad]
  simp only [T.bind]
  exact g
end
@[irreducible] def ldF : List D → T D := f__law_laced
theorem law_laced_all {a b : Wd'} (h2 : a.length ≤ 4) (h3 : b.length ≤ 2) (hs : a.length + b.length ≤ 5) (ha : ∀ l ∈ a, l.length ≤ 1000) : T.all (fun d => ∃ kv, d = .dic (dD kv) ∧ Rep kv (Ll a b)) (ldF [nw a, nw b]) := by
  unfold ldF f__law_laced runB
  rw [laced_eq]
  refine T.all_bind.mpr (seq_nx ⟨[.val (nw a), .val (nw b), .ownD (dD []), .un, .un, .un, .un, .un], rfl, ?_⟩)
  refine seq_nx ?_
  refine T.all_bind.mpr (all_eq (ltR_val (a := a) (b := b) h2 (by omega)) ?_)
  have few := Ll_len h2 h3 hs
  refine T.all_mono (fun o ho => ?_) (for_rep (N := 1000) (g := nI) (F := fK a b) (S := S3 a b) (l := []) (fun m hm l kv ρ r s n => ?_) Rep.nil ⟨.un, .un, .un, .un, rfl⟩ (by rw [← Ll_eq]; simp; omega))
  · obtain ⟨kv', ρ', rfl, r', y3, y4, y5, y6, rfl⟩ := ho
    rw [List.nil_append, ← Ll_eq] at r'
    exact ⟨_, rfl, kv', rfl, r'⟩
  · obtain ⟨z3, z4, z5, z6, rfl⟩ := s
    have hm := List.mem_range'_1.mp hm
    exact ltK_all (by omega) h2 (by omega) ha r n
end Pd

/-! Counted dicts, by any key; their != . -/
namespace Pd
open PySem L2 PySem.W PySem.Spec PyProof.Rows
structure Enc (α : Type) where
  enc : α → D
  key : α → NestedKey
  nk : ∀ a, (enc a).nk = some (key a)
  wk : ∀ (a : α) (f : NestedKey → T Out), withKey (enc a) f = f (key a)
  has : ∀ k w : α, hasK (key k) (enc w) = true ↔ w = k
def encW : Enc Wd' where
  enc := nw
  key := kW
  nk := nk_nw
  wk := fun a f => key_nw a f
  has := fun k w => by rw [has_nw, decide_eq_true_iff]
def pairD (p : Wd' × Wd') : D := .tup [nw p.1, nw p.2]
def kP (p : Wd' × Wd') : NestedKey := .tup [kW p.1, kW p.2]
theorem kW_inj {v w : Wd'} (h : kW v = kW w) : v = w := by
  injection h with h
  exact kWs_inj h
theorem nk_pair (p : Wd' × Wd') : D.nk (pairD p) = some (kP p) := by
  show (match D.nks [nw p.1, nw p.2] with | some ks => some (NestedKey.tup ks) | none => none) = _
  have e : D.nks [nw p.1, nw p.2] = some [kW p.1, kW p.2] := by
    show (match D.nk (nw p.1) with | none => none | some k => match (match D.nk (nw p.2) with | none => none | some k => match D.nks [] with | none => none | some ks => some (k :: ks)) with | none => none | some ks => some (k :: ks)) = _
    rw [nk_nw, nk_nw]
    rfl
  rw [e]
  rfl
theorem dep_W (w : Wd') : (kW w).depth ≤ 2 := by
  show NestedKey.depthAll (w.map kL) + 1 ≤ 2
  have := dep_kLs w
  omega
theorem key_pair {α : Type} (p : Wd' × Wd') (f : NestedKey → T α) : withKey (pairD p) f = f (kP p) := by
  have e : keyD (pairD p) = some (kP p) := by
    have n := nk_pair p
    unfold pairD at n
    unfold keyD pairD
    dsimp only
    rw [n]
    have d : (kP p).depth ≤ 8 := by
      show max (kW p.1).depth (max (kW p.2).depth 0) + 1 ≤ 8
      have := dep_W p.1
      have := dep_W p.2
      omega
    dsimp only
    rw [decide_eq_true d]
    rfl
  unfold withKey
  rw [e]
def encP : Enc (Wd' × Wd') where
  enc := pairD
  key := kP
  nk := nk_pair
  wk := fun a f => key_pair a f
  has := fun k w => by
    rw [hasK_eq (nk_pair w), decide_eq_true_iff]
    constructor
    · intro h
      injection h with h
      injection h with h1 h2
      injection h2 with h2 _
      exact Prod.ext (kW_inj h1) (kW_inj h2)
    · intro h
      rw [h]
section
variable {α : Type} [DecidableEq α] (E : Enc α)
def dE (kv : List (α × Nat)) : List (D × D) := kv.map fun p => (E.enc p.1, nI p.2)
theorem hasE_t {k w : α} (h : w = k) : hasK (E.key k) (E.enc w) = true := (E.has k w).mpr h
theorem hasE_f {k w : α} (h : w ≠ k) : hasK (E.key k) (E.enc w) = false := by
  cases e : hasK (E.key k) (E.enc w) with
  | false => rfl
  | true => exact absurd ((E.has k w).mp e) h
theorem atE_get (k : α) : ∀ kv : List (α × Nat), (dAt (dE E kv) (E.key k)).getD (.int 0) = nI (getW kv k)
  | [] => rfl
  | p :: r => by
    show (cond (hasK (E.key k) (E.enc p.1)) (some (nI p.2)) (dAt (dE E r) (E.key k))).getD (.int 0) = nI (if p.1 = k then p.2 else getW r k)
    by_cases h : p.1 = k
    · rw [hasE_t E h, if_pos h]
      rfl
    · rw [hasE_f E h, if_neg h]
      exact atE_get k r
theorem atE_some {k : α} : ∀ {kv : List (α × Nat)}, k ∈ kv.map (·.1) → dAt (dE E kv) (E.key k) = some (nI (getW kv k))
  | [], h => (List.not_mem_nil h).elim
  | p :: r, h => by
    show cond (hasK (E.key k) (E.enc p.1)) (some (nI p.2)) (dAt (dE E r) (E.key k)) = some (nI (if p.1 = k then p.2 else getW r k))
    by_cases e : p.1 = k
    · rw [hasE_t E e, if_pos e]
      rfl
    · rw [hasE_f E e, if_neg e]
      rcases List.mem_cons.mp h with z | z
      · exact absurd z.symm e
      · exact atE_some z
theorem putE_D (k : α) (n : Nat) : ∀ kv : List (α × Nat), dPut (dE E kv) (E.key k) (E.enc k) (nI n) = dE E (putW kv k n)
  | [] => rfl
  | p :: r => by
    show cond (hasK (E.key k) (E.enc p.1)) ((E.enc p.1, nI n) :: dE E r) ((E.enc p.1, nI p.2) :: dPut (dE E r) (E.key k) (E.enc k) (nI n)) = dE E (if p.1 = k then (p.1, n) :: r else p :: putW r k n)
    by_cases h : p.1 = k
    · rw [hasE_t E h, if_pos h]
      rfl
    · rw [hasE_f E h, if_neg h, putE_D k n r]
      rfl
theorem putC_add {ρ : Rho} {i : Nat} {kv : List (α × Nat)} {k : α} {n : Nat} {mk mv : Rho → T D} (hi : ρ[i]? = some (.ownD (dE E kv))) (hk : mk ρ = .ret (E.enc k)) (hv : mv ρ = .ret (nI n)) (l : kv.length ≤ 100000) : sPutC i mk mv ρ = .ret (.nx (ρ.set i (.ownD (dE E (addW kv k n))))) := by
  have sm : decide ((dE E kv).length ≤ 100000) = true := decide_eq_true (by unfold dE; rw [List.length_map]; exact l)
  have pd : dPut (dE E kv) (E.key k) (E.enc k) (.int ((getW kv k : Int) + (n : Int))) = dE E (addW kv k n) := by
    have := putE_D E k (getW kv k + n) kv
    unfold nI at this
    rw [Int.natCast_add] at this
    exact this
  simp only [sPutC, hi, hk, hv, T.bind, E.wk, atE_get]
  show cond (decide ((dE E kv).length ≤ 100000)) (T.ret (Out.nx (ρ.set i (.ownD (dPut (dE E kv) (E.key k) (E.enc k) (.int ((getW kv k : Int) + (n : Int)))))))) .fail = _
  rw [sm, pd]
  rfl
theorem dic_ne {kv kv' : List (α × Nat)} {l l' : List α} (r : Rep kv l) (g : Rep kv' l') (p : l.Perm l') : opNeD (.dic (dE E kv)) (.dic (dE E kv')) = .ret (.bl false) := by
  have ln : (dE E kv).length = (dE E kv').length := by
    unfold dE
    rw [List.length_map, List.length_map]
    have := (r.keys g p).length_eq
    rw [List.length_map, List.length_map] at this
    exact this
  have al : dicSame (dE E kv) (dE E kv') = true := by
    unfold dicSame
    rw [decide_eq_true ln, Bool.true_and, List.all_eq_true]
    intro x hx
    obtain ⟨q, hq, rfl⟩ := List.mem_map.mp hx
    have mem : q.1 ∈ kv'.map (·.1) := (r.keys g p).mem_iff.mp (List.mem_map.mpr ⟨q, hq, rfl⟩)
    have cnt : getW kv' q.1 = q.2 := by
      rw [← get_at r.nd q hq]
      exact (g.get q.1).trans ((@List.Perm.count_eq α instBEqOfDecidableEq l' l p.symm q.1).trans (r.get q.1).symm)
    have at_ := atE_some E mem
    rw [cnt] at at_
    dsimp only
    rw [E.nk]
    unfold nI at at_ ⊢
    dsimp only
    rw [at_]
    exact decide_eq_true rfl
  unfold opNeD
  dsimp only
  rw [al]
  rfl
theorem forE {β : Type} {N : Nat} {body : D → Rho → T Out} {g : β → D} {F : β → List α} {S : List (α × Nat) → Rho → Prop} : ∀ {xs : List β} {l : List α} {kv : List (α × Nat)} {ρ : Rho}, (∀ x ∈ xs, ∀ l kv ρ, Rep kv l → S kv ρ → l.length + (F x).length ≤ N → (body (g x) ρ).all fun o => ∃ kv' ρ', o = .nx ρ' ∧ Rep kv' (l ++ F x) ∧ S kv' ρ') → Rep kv l → S kv ρ → l.length + (xs.flatMap F).length ≤ N → (forT body (xs.map g) ρ).all fun o => ∃ kv' ρ', o = .nx ρ' ∧ Rep kv' (l ++ xs.flatMap F) ∧ S kv' ρ'
  | [], l, kv, ρ, _, r, s, _ => ⟨kv, ρ, rfl, by simpa using r, s⟩
  | x :: xs, l, kv, ρ, h, r, s, n => by
    rw [List.flatMap_cons, List.length_append] at n
    refine T.all_bind.mpr (T.all_mono (fun o ho => ?_) (h x List.mem_cons_self l kv ρ r s (by omega)))
    obtain ⟨kv', ρ', rfl, r', s'⟩ := ho
    show T.all _ (forT body (xs.map g) ρ')
    have t := forE (N := N) (body := body) (g := g) (F := F) (S := S) (xs := xs) (fun y hy => h y (List.mem_cons_of_mem _ hy)) r' s' (by rw [List.length_append]; omega)
    refine T.all_mono (fun o ho => ?_) t
    obtain ⟨kv2, ρ2, rfl, r2, s2⟩ := ho
    rw [List.append_assoc] at r2
    exact ⟨kv2, ρ2, rfl, r2, s2⟩
end
theorem dE_W (kv : List (Wd' × Nat)) : dE encW kv = dD kv := rfl
end Pd

/-! Lacings of three, of cuts, turned about. -/
namespace Pd
open PySem L2 PySem.W PySem.Spec PyProof.Rows
theorem lac_congr {α : Type} {x y x' y' : Nat → α} {xy xy' : Nat → Nat → α} {I J : Nat} (hx : ∀ i, i < I → x i = x' i) (hy : ∀ j, j < J → y j = y' j) (hxy : ∀ i j, i < I → j < J → xy i j = xy' i j) : ∀ i j, i ≤ I → j ≤ J → lac x y xy i j = lac x' y' xy' i j
  | 0, j, _, hj => by
    show [(List.range j).map y] = [(List.range j).map y']
    congr 1
    exact List.map_congr_left fun k hk => hy k (by have := List.mem_range.mp hk; omega)
  | i + 1, 0, hi, hj => by
    show (lac x y xy i 0).map (· ++ [x i]) = (lac x' y' xy' i 0).map (· ++ [x' i])
    rw [lac_congr hx hy hxy i 0 (by omega) hj, hx i (by omega)]
  | i + 1, j + 1, hi, hj => by
    show (lac x y xy i (j + 1)).map (· ++ [x i]) ++ ((lac x y xy (i + 1) j).map (· ++ [y j]) ++ (lac x y xy i j).map (· ++ [xy i j])) = (lac x' y' xy' i (j + 1)).map (· ++ [x' i]) ++ ((lac x' y' xy' (i + 1) j).map (· ++ [y' j]) ++ (lac x' y' xy' i j).map (· ++ [xy' i j]))
    rw [lac_congr hx hy hxy i (j + 1) (by omega) hj, lac_congr hx hy hxy (i + 1) j hi (by omega), lac_congr hx hy hxy i j (by omega) (by omega), hx i (by omega), hy j (by omega), hxy i j (by omega) (by omega)]
theorem addL_assoc : ∀ l m n : List Nat, addL (addL l m) n = addL l (addL m n)
  | [], _, _ => rfl
  | _ :: _, [], _ => rfl
  | _ :: _, _ :: _, [] => rfl
  | a :: l, b :: m, c :: n => by
    show (a + b + c) :: addL (addL l m) n = (a + (b + c)) :: addL l (addL m n)
    rw [addL_assoc l m n, Nat.add_assoc]
/-! three -/
abbrev Sl3 := Option Nat × Option Nat × Option Nat
def t1 (i : Nat) : Sl3 := (some i, none, none)
def t2 (j : Nat) : Sl3 := (none, some j, none)
def t3 (k : Nat) : Sl3 := (none, none, some k)
def t0 : Sl3 := (none, none, none)
def orE : Option Nat → Option Nat → Option Nat
  | some i, _ => some i
  | none, o => o
def mrg (s t : Sl3) : Sl3 := (orE s.1 t.1, orE s.2.1 t.2.1, orE s.2.2 t.2.2)
def at3 (u : List Sl3) (p : Nat) : Sl3 := u.getD p t0
def lz (u : List Sl3) (y : Nat → Sl3) (k : Nat) : List (List Sl3) := lac (at3 u) y (fun p q => mrg (at3 u p) (y q)) u.length k
def A3 (i j k : Nat) : List (List Sl3) := (lac t1 t2 (fun p q => mrg (t1 p) (t2 q)) i j).flatMap fun u => lz u t3 k
def B3 (i j k : Nat) : List (List Sl3) := (lac t2 t3 (fun p q => mrg (t2 p) (t3 q)) j k).flatMap fun u => lz u t1 i
theorem ab3 : ((List.range 3).all fun i => (List.range 3).all fun j => (List.range 3).all fun k => decide (5 < i + j + k) || (B3 i j k).isPerm (A3 i j k)) = true := by decide +kernel
theorem ab3_ok {i j k : Nat} (hi : i ≤ 2) (hj : j ≤ 2) (hk : k ≤ 2) (h : i + j + k ≤ 5) : (B3 i j k).Perm (A3 i j k) := by
  have q := List.all_eq_true.mp (List.all_eq_true.mp (List.all_eq_true.mp ab3 i (List.mem_range.mpr (by omega))) j (List.mem_range.mpr (by omega))) k (List.mem_range.mpr (by omega))
  rw [decide_eq_false (by omega), Bool.false_or] at q
  exact List.isPerm_iff.mp q
def ap3 (a b c : Wd') : Sl3 → List Nat
  | (some i, none, none) => ltA a i
  | (none, some j, none) => ltA b j
  | (none, none, some k) => ltA c k
  | (some i, some j, none) => addL (ltA a i) (ltA b j)
  | (some i, none, some k) => addL (ltA a i) (ltA c k)
  | (none, some j, some k) => addL (ltA b j) (ltA c k)
  | (some i, some j, some k) => addL (addL (ltA a i) (ltA b j)) (ltA c k)
  | (none, none, none) => []
section
variable {a b c : Wd'}
theorem lt_map (u : List Sl3) (p : Nat) : ltA (u.map (ap3 a b c)) p = ap3 a b c (at3 u p) := by
  unfold ltA at3
  rw [List.getD_eq_getElem?_getD, List.getD_eq_getElem?_getD, List.getElem?_map]
  cases u[p]? <;> rfl
def g12 (s : Sl3) : Prop := s.2.2 = none ∧ (s.1 ≠ none ∨ s.2.1 ≠ none)
def g23 (s : Sl3) : Prop := s.1 = none ∧ (s.2.1 ≠ none ∨ s.2.2 ≠ none)
theorem mrg3 {s : Sl3} (h : g12 s) (q : Nat) : ap3 a b c (mrg s (t3 q)) = addL (ap3 a b c s) (ltA c q) := by
  obtain ⟨s1, s2, s3⟩ := s
  obtain ⟨h1, h2⟩ := h
  cases h1
  cases s1 with
  | some i =>
    cases s2 with
    | some j => rfl
    | none => rfl
  | none =>
    cases s2 with
    | some j => rfl
    | none => rcases h2 with h2 | h2 <;> exact absurd rfl h2
theorem mrg1 {s : Sl3} (h : g23 s) (q : Nat) : ap3 a b c (mrg s (t1 q)) = addL (ap3 a b c s) (ltA a q) := by
  obtain ⟨s1, s2, s3⟩ := s
  obtain ⟨h1, h2⟩ := h
  cases h1
  cases s2 with
  | some j =>
    cases s3 with
    | some k =>
      show addL (addL (ltA a q) (ltA b j)) (ltA c k) = addL (addL (ltA b j) (ltA c k)) (ltA a q)
      rw [addL_assoc, addL_comm]
    | none => exact addL_comm _ _
  | none =>
    cases s3 with
    | some k => exact addL_comm _ _
    | none => rcases h2 with h2 | h2 <;> exact absurd rfl h2
theorem at3_mem {u : List Sl3} {p : Nat} (h : p < u.length) : at3 u p ∈ u := by
  unfold at3
  rw [List.getD_eq_getElem?_getD, List.getElem?_eq_getElem h]
  exact List.getElem_mem h
theorem lz3 {u : List Sl3} (h : ∀ s ∈ u, g12 s) : Lw (u.map (ap3 a b c)) c = (lz u t3 c.length).map (List.map (ap3 a b c)) := by
  unfold lz
  rw [← lac_map]
  unfold Lw
  rw [List.length_map]
  exact lac_congr (fun p _ => lt_map u p) (fun q _ => rfl) (fun p q hp _ => by rw [lt_map, mrg3 (h _ (at3_mem hp))]) _ _ (Nat.le_refl _) (Nat.le_refl _)
theorem lz1 {u : List Sl3} (h : ∀ s ∈ u, g23 s) : Lw (u.map (ap3 a b c)) a = (lz u t1 a.length).map (List.map (ap3 a b c)) := by
  unfold lz
  rw [← lac_map]
  unfold Lw
  rw [List.length_map]
  exact lac_congr (fun p _ => lt_map u p) (fun q _ => rfl) (fun p q hp _ => by rw [lt_map, mrg1 (h _ (at3_mem hp))]) _ _ (Nat.le_refl _) (Nat.le_refl _)
theorem Lw12 : Lw a b = (lac t1 t2 (fun p q => mrg (t1 p) (t2 q)) a.length b.length).map (List.map (ap3 a b c)) := lac_map (ap3 a b c) t1 t2 (fun p q => mrg (t1 p) (t2 q)) a.length b.length
theorem Lw23 : Lw b c = (lac t2 t3 (fun p q => mrg (t2 p) (t3 q)) b.length c.length).map (List.map (ap3 a b c)) := lac_map (ap3 a b c) t2 t3 (fun p q => mrg (t2 p) (t3 q)) b.length c.length
theorem flat_map {α β γ : Type} {f : α → List β} {g : β → γ} {h : α → List γ} : ∀ {l : List α}, (∀ x ∈ l, h x = (f x).map g) → l.flatMap h = (l.flatMap f).map g
  | [], _ => rfl
  | x :: l, e => by
    rw [List.flatMap_cons, List.flatMap_cons, List.map_append, e x List.mem_cons_self, flat_map fun y hy => e y (List.mem_cons_of_mem _ hy)]
theorem all_a : (Lw a b).flatMap (fun u => Lw u c) = (A3 a.length b.length c.length).map (List.map (ap3 a b c)) := by
  rw [Lw12 (c := c), List.flatMap_map]
  unfold A3
  refine flat_map fun u hu => ?_
  exact lz3 (lac_all (P := g12) (I := a.length) (J := b.length) (fun i _ => ⟨rfl, .inl (by simp [t1])⟩) (fun j _ => ⟨rfl, .inr (by simp [t2])⟩) (fun i j _ _ => ⟨rfl, .inl (by simp [mrg, t1, t2, orE])⟩) _ _ (Nat.le_refl _) (Nat.le_refl _) u hu).2.2
theorem all_b : (Lw b c).flatMap (fun u => Lw u a) = (B3 a.length b.length c.length).map (List.map (ap3 a b c)) := by
  rw [Lw23 (a := a), List.flatMap_map]
  unfold B3
  refine flat_map fun u hu => ?_
  exact lz1 (lac_all (P := g23) (I := b.length) (J := c.length) (fun i _ => ⟨rfl, .inl (by simp [t2])⟩) (fun j _ => ⟨rfl, .inr (by simp [t3])⟩) (fun i j _ _ => ⟨rfl, .inl (by simp [mrg, t2, t3, orE])⟩) _ _ (Nat.le_refl _) (Nat.le_refl _) u hu).2.2
theorem three_ok (ha : a.length ≤ 2) (hb : b.length ≤ 2) (hc : c.length ≤ 2) (h : a.length + b.length + c.length ≤ 5) : ((Lw b c).flatMap fun u => Lw u a).Perm ((Lw a b).flatMap fun u => Lw u c) := by
  rw [all_a (a := a) (b := b) (c := c), all_b (a := a) (b := b) (c := c)]
  exact (ab3_ok ha hb hc h).map _
end
/-! cuts -/
def cutL {α : Type} (w : List α) : List (List α × List α) := (List.range (w.length + 1)).map fun p => (w.take p, w.drop p)
def LC (i j : Nat) : List (List Sl × List Sl) := (lac sx sy sxy i j).flatMap cutL
def RC (i j : Nat) : List (List Sl × List Sl) := (List.range (i + 1)).flatMap fun p => (List.range (j + 1)).flatMap fun q => (lac sx sy sxy p q).flatMap fun u => (lac (fun k => sx (p + k)) (fun k => sy (q + k)) (fun k l => sxy (p + k) (q + l)) (i - p) (j - q)).map fun v => (u, v)
theorem cc : ((List.range 3).all fun i => (List.range 3).all fun j => (LC i j).isPerm (RC i j)) = true := by decide +kernel
theorem cc_ok {i j : Nat} (hi : i ≤ 2) (hj : j ≤ 2) : (LC i j).Perm (RC i j) := List.isPerm_iff.mp (List.all_eq_true.mp (List.all_eq_true.mp cc i (List.mem_range.mpr (by omega))) j (List.mem_range.mpr (by omega)))
section
variable {a b : Wd'}
def ap2 (a b : Wd') (x : List Sl × List Sl) : Wd' × Wd' := (x.1.map (apS a b), x.2.map (apS a b))
theorem cut_map {α β : Type} (f : α → β) (w : List α) : cutL (w.map f) = (cutL w).map fun x => (x.1.map f, x.2.map f) := by
  unfold cutL
  rw [List.length_map, List.map_map]
  exact List.map_congr_left fun p _ => by
    show ((w.map f).take p, (w.map f).drop p) = ((w.take p).map f, (w.drop p).map f)
    rw [List.map_take, List.map_drop]
theorem Lw_ap : Lw a b = (lac sx sy sxy a.length b.length).map (List.map (apS a b)) := lac_ap a b _ _
theorem left_c : (Lw a b).flatMap cutL = (LC a.length b.length).map (ap2 a b) := by
  rw [Lw_ap, List.flatMap_map]
  unfold LC
  exact flat_map fun u _ => cut_map (apS a b) u
theorem lt_take {p k : Nat} (h : k < p) : ltA (a.take p) k = ltA a k := getD_take a p k [] h
theorem lt_drop (p k : Nat) : ltA (a.drop p) k = ltA a (p + k) := getD_drop a p k []
theorem Lw_take {p q : Nat} (hp : p ≤ a.length) (hq : q ≤ b.length) : Lw (a.take p) (b.take q) = (lac sx sy sxy p q).map (List.map (apS a b)) := by
  rw [← lac_ap]
  unfold Lw
  rw [List.length_take, List.length_take, Nat.min_eq_left hp, Nat.min_eq_left hq]
  exact lac_congr (fun i hi => lt_take hi) (fun j hj => lt_take hj) (fun i j hi hj => by rw [lt_take hi, lt_take hj]) _ _ (Nat.le_refl _) (Nat.le_refl _)
theorem Lw_drop (p q : Nat) : Lw (a.drop p) (b.drop q) = (lac (fun k => sx (p + k)) (fun k => sy (q + k)) (fun k l => sxy (p + k) (q + l)) (a.length - p) (b.length - q)).map (List.map (apS a b)) := by
  rw [← lac_map]
  unfold Lw
  rw [List.length_drop, List.length_drop]
  exact lac_congr (fun i _ => lt_drop p i) (fun j _ => lt_drop q j) (fun i j _ _ => by rw [lt_drop, lt_drop]; rfl) _ _ (Nat.le_refl _) (Nat.le_refl _)
def rightC (a b : Wd') : List (Wd' × Wd') := (cutL a).flatMap fun x => (cutL b).flatMap fun y => (Lw x.1 y.1).flatMap fun u => (Lw x.2 y.2).map fun v => (u, v)
theorem right_c : rightC a b = (RC a.length b.length).map (ap2 a b) := by
  unfold rightC RC
  rw [show cutL a = (List.range (a.length + 1)).map fun p => (a.take p, a.drop p) from rfl, List.flatMap_map]
  refine flat_map fun p hp => ?_
  rw [show cutL b = (List.range (b.length + 1)).map fun p => (b.take p, b.drop p) from rfl, List.flatMap_map]
  refine flat_map fun q hq => ?_
  have hp := List.mem_range.mp hp
  have hq := List.mem_range.mp hq
  show (Lw (a.take p) (b.take q)).flatMap (fun u => (Lw (a.drop p) (b.drop q)).map fun v => (u, v)) = _
  rw [Lw_take (by omega) (by omega), Lw_drop, List.flatMap_map]
  refine flat_map fun u _ => ?_
  rw [List.map_map, List.map_map]
  rfl
theorem cuts_ok (ha : a.length ≤ 2) (hb : b.length ≤ 2) : ((Lw a b).flatMap cutL).Perm (rightC a b) := by
  rw [left_c, right_c]
  exact (cc_ok ha hb).map _
/-! turned -/
theorem tt : ((List.range 3).all fun i => (List.range 3).all fun j => (lac (fun k => sx (i - 1 - k)) (fun k => sy (j - 1 - k)) (fun k l => sxy (i - 1 - k) (j - 1 - l)) i j).isPerm ((lac sx sy sxy i j).map List.reverse)) = true := by decide +kernel
theorem lt_rev {k : Nat} (h : k < a.length) : ltA a.reverse k = ltA a (a.length - 1 - k) := getD_rev a k [] h
theorem turn_ok (ha : a.length ≤ 2) (hb : b.length ≤ 2) : (Lw a.reverse b.reverse).Perm ((Lw a b).map List.reverse) := by
  have e : Lw a.reverse b.reverse = (lac (fun k => sx (a.length - 1 - k)) (fun k => sy (b.length - 1 - k)) (fun k l => sxy (a.length - 1 - k) (b.length - 1 - l)) a.length b.length).map (List.map (apS a b)) := by
    rw [← lac_map]
    unfold Lw
    rw [List.length_reverse, List.length_reverse]
    exact lac_congr (fun i hi => lt_rev hi) (fun j hj => lt_rev hj) (fun i j hi hj => by rw [lt_rev hi, lt_rev hj]; rfl) _ _ (Nat.le_refl _) (Nat.le_refl _)
  have e2 : (Lw a b).map List.reverse = ((lac sx sy sxy a.length b.length).map List.reverse).map (List.map (apS a b)) := by
    rw [Lw_ap, List.map_map, List.map_map]
    exact List.map_congr_left fun u _ => (List.map_reverse).symm
  rw [e, e2]
  exact (List.isPerm_iff.mp (List.all_eq_true.mp (List.all_eq_true.mp tt a.length (List.mem_range.mpr (by omega))) b.length (List.mem_range.mpr (by omega)))).map _
theorem Lw_nil (a : Wd') : Lw a [] = [a] := by
  unfold Lw
  rw [List.length_nil, lac_left, range_lt]
theorem nil_Lw (a : Wd') : Lw [] a = [a] := by
  show [(List.range a.length).map (ltA a)] = [a]
  rw [range_lt]
end
end Pd

/-! Cuts, turned words, the law's _law_further. -/
namespace Pd
open PySem L2 PySem.W PySem.Spec PyProof.Rows
@[irreducible] def cuF : List D → T D := f_cuts
@[irreducible] def cuE : Rho → T D := eTup (aCons (eSl (eVar 1) oNo (oPart (eVar 2))) (aCons (eSl (eVar 1) (oPart (eVar 2)) oNo) aNil))
theorem cuts_eq : m_cuts = bSeq (sExpr (eCall 2 nwF (aCons (eVar 0) (aCons (eVar 1) aNil)))) (sRet (eL (lComp [2] (iRg rng1 (aCons (eBin opAdd (eCa bLen (aCons (eVar 1) aNil)) (eC (.int 1))) aNil)) (gNm 2) yesT cuE))) := by
  unfold m_cuts nwF cuE
  rfl
theorem isWd8 {c : Nat} {u : Wd'} (h : isWd c u = true) : u.length ≤ 8 := of_decide_eq_true (Bool.and_eq_true_iff.mp h).1
theorem cuF_val {c : Nat} {u : Wd'} (h : isWd c u = true) (h3 : c ≤ 3) : cuF [.int (c : Int), nw u] = .ret (.lst ((cutL u).map pairD)) := by
  have h8 := isWd8 h
  have n1 := nwF_val h h3
  have s1 : sExpr (eCall 2 nwF (aCons (eVar 0) (aCons (eVar 1) aNil))) [.val (.int (c : Int)), .val (nw u), .un] = .ret (.nx [.val (.int (c : Int)), .val (nw u), .un]) := by
    simp only [sExpr, eCall, aCons, aNil, eVar, List.length_cons, List.length_nil, List.getElem?_cons_succ, List.getElem?_cons_zero, T.bind, BEq.rfl, cond, n1]
  have e1 : eBin opAdd (eCa bLen (aCons (eVar 1) aNil)) (eC (.int 1)) [.val (.int (c : Int)), .val (nw u), .un] = .ret (.int ((u.length + 1 : Nat) : Int)) := by
    simp only [eBin, len1 (ρ := [.val (.int (c : Int)), .val (nw u), .un]) (i := 1) (a := u) rfl, eC, T.bind]
    show T.ret (D.int ((u.length : Int) + 1)) = _
    congr 2
  have lc : lComp [2] (iRg rng1 (aCons (eBin opAdd (eCa bLen (aCons (eVar 1) aNil)) (eC (.int 1))) aNil)) (gNm 2) yesT cuE [.val (.int (c : Int)), .val (nw u), .un] = .ret ((cutL u).map pairD) := by
    unfold lComp
    rw [rng_val e1 (by omega)]
    show compT (gNm 2) yesT cuE [.val (.int (c : Int)), .val (nw u), .un] (upto 0 (u.length + 1)) [] = _
    rw [upto_range, compT_map (f := fun d => pairD (u.take (unI d), u.drop (unI d))) (by simp; omega) fun d hd => ?_]
    · rw [List.nil_append, List.map_map]
      unfold cutL
      rw [List.map_map]
      congr 1
    · obtain ⟨i, hi, rfl⟩ := List.mem_map.mp hd
      have hi := List.mem_range.mp hi
      rw [un_I]
      have s := sl_lo (ρ := [.val (.int (c : Int)), .val (nw u), .val (nI i)]) (p := 1) (q := 2) (i := i) (ds := u.map nt) rfl rfl (by rw [List.length_map]; omega)
      have s2 := sl_hi (ρ := [.val (.int (c : Int)), .val (nw u), .val (nI i)]) (p := 1) (q := 2) (i := i) (ds := u.map nt) rfl rfl (by rw [List.length_map]; omega)
      rw [← List.map_take] at s
      rw [← List.map_drop] at s2
      unfold cuE
      exact tup2_val s s2
  unfold cuF f_cuts runB
  rw [cuts_eq]
  show T.bind (bSeq _ _ [.val (.int (c : Int)), .val (nw u), .un]) _ = _
  simp only [bSeq, s1, T.bind, sRet, eL, lc]
@[irreducible] def tuF : List D → T D := f_turned_word
theorem tuF_val {c : Nat} {u : Wd'} (h : isWd c u = true) (h3 : c ≤ 3) : tuF [.int (c : Int), nw u] = .ret (nw u.reverse) := by
  have n1 := nwF_val h h3
  have e : m_turned_word = bSeq (sExpr (eCall 2 nwF (aCons (eVar 0) (aCons (eVar 1) aNil)))) (sRet (eRevT (eVar 1))) := by
    unfold m_turned_word nwF
    rfl
  have s1 : sExpr (eCall 2 nwF (aCons (eVar 0) (aCons (eVar 1) aNil))) [.val (.int (c : Int)), .val (nw u)] = .ret (.nx [.val (.int (c : Int)), .val (nw u)]) := by
    simp only [sExpr, eCall, aCons, aNil, eVar, List.length_cons, List.length_nil, List.getElem?_cons_succ, List.getElem?_cons_zero, T.bind, BEq.rfl, cond, n1]
  have r : eRevT (eVar 1) [.val (.int (c : Int)), .val (nw u)] = .ret (nw u.reverse) := by
    show T.ret (D.tup (u.map nt).reverse) = _
    rw [← List.map_reverse]
    rfl
  unfold tuF f_turned_word runB
  rw [e]
  show T.bind (bSeq _ _ [.val (.int (c : Int)), .val (nw u)]) _ = _
  simp only [bSeq, s1, T.bind, sRet, r]
/-! counted lists joined -/
section
variable {α β : Type}
theorem perm_flat {f : α → List β} {l m : List α} (p : l.Perm m) : (l.flatMap f).Perm (m.flatMap f) := by
  induction p with
  | nil => exact .refl _
  | cons x _ ih => exact (List.Perm.refl (f x)).append ih
  | swap x y l =>
    show (f y ++ (f x ++ l.flatMap f)).Perm (f x ++ (f y ++ l.flatMap f))
    rw [← List.append_assoc, ← List.append_assoc]
    exact List.perm_append_comm.append (.refl _)
  | trans _ _ h1 h2 => exact h1.trans h2
theorem flat_perm {f g : α → List β} : ∀ {l : List α}, (∀ x ∈ l, (f x).Perm (g x)) → (l.flatMap f).Perm (l.flatMap g)
  | [], _ => .refl _
  | x :: l, h => (h x List.mem_cons_self).append (flat_perm fun y hy => h y (List.mem_cons_of_mem _ hy))
theorem flat_app (f g : α → List β) : ∀ l : List α, (l.flatMap fun x => f x ++ g x).Perm (l.flatMap f ++ l.flatMap g)
  | [] => .refl _
  | x :: l => by
    have ih := flat_app f g l
    show (f x ++ g x ++ l.flatMap fun x => f x ++ g x).Perm (f x ++ l.flatMap f ++ (g x ++ l.flatMap g))
    rw [List.append_assoc, List.append_assoc]
    refine (List.Perm.refl _).append (((List.Perm.refl (g x)).append ih).trans ?_)
    rw [← List.append_assoc, ← List.append_assoc]
    exact List.perm_append_comm.append (.refl _)
/-- n copies -/
def cop (n : Nat) (l : List β) : List β := (List.range n).flatMap fun _ => l
theorem cop_succ (n : Nat) (l : List β) : cop (n + 1) l = cop n l ++ l := by
  unfold cop
  rw [List.range_succ, List.flatMap_append, List.flatMap_cons, List.flatMap_nil, List.append_nil]
theorem cop_perm {l m : List β} (p : l.Perm m) (n : Nat) : (cop n l).Perm (cop n m) := flat_perm fun _ _ => p
theorem cop_times (n : Nat) : ∀ rs : List (β × Nat), (rs.flatMap fun q => List.replicate (n * q.2) q.1).Perm (cop n (exW rs)) := by
  induction n with
  | zero =>
    intro rs
    have e : (rs.flatMap fun q => List.replicate (0 * q.2) q.1) = [] := by
      rw [List.flatMap_eq_nil_iff]
      intro q _
      rw [Nat.zero_mul]
      rfl
    rw [e]
    exact .refl _
  | succ n ih =>
    intro rs
    rw [cop_succ]
    have e : (rs.flatMap fun q => List.replicate ((n + 1) * q.2) q.1) = rs.flatMap fun q => List.replicate (n * q.2) q.1 ++ List.replicate q.2 q.1 := by
      congr 1
      funext q
      rw [Nat.succ_mul, List.replicate_append_replicate]
    rw [e]
    refine (flat_app _ _ rs).trans ((ih rs).append ?_)
    exact .refl _
theorem cop_rep (f : α → List β) (x : α) : ∀ n : Nat, (List.replicate n x).flatMap f = cop n (f x)
  | 0 => rfl
  | n + 1 => by
    rw [cop_succ, ← cop_rep f x n, List.replicate_succ', List.flatMap_append, List.flatMap_cons, List.flatMap_nil, List.append_nil]
theorem cop_ex (f : α → List β) : ∀ ps : List (α × Nat), (ps.flatMap fun p => cop p.2 (f p.1)) = (exW ps).flatMap f
  | [] => rfl
  | p :: ps => by
    have e : exW (p :: ps) = List.replicate p.2 p.1 ++ exW ps := by simp [exW]
    rw [e, List.flatMap_append, ← cop_ex f ps, cop_rep]
    rfl
theorem flat_len {f : α → List β} {K : Nat} : ∀ {l : List α}, (∀ x ∈ l, (f x).length ≤ K) → (l.flatMap f).length ≤ l.length * K
  | [], _ => by simp
  | x :: l, h => by
    rw [List.flatMap_cons, List.length_append, List.length_cons, Nat.succ_mul]
    have := h x List.mem_cons_self
    have := flat_len fun y hy => h y (List.mem_cons_of_mem x hy)
    omega
theorem ex_le {ps : List (α × Nat)} : ∀ {p : α × Nat}, p ∈ ps → p.2 ≤ (exW ps).length := by
  induction ps with
  | nil => intro p h; exact (List.not_mem_nil h).elim
  | cons q ps ih =>
    intro p h
    have e : exW (q :: ps) = List.replicate q.2 q.1 ++ exW ps := by simp [exW]
    rw [e, List.length_append, List.length_replicate]
    rcases List.mem_cons.mp h with rfl | h
    · omega
    · have := ih h
      omega
end
theorem mul_nI {a b : Nat} (h : a ≤ 1000) : opMulT (nI a) (nI b) = .ret (nI (a * b)) := by
  have l : lim64 (a : Int) = true := by
    unfold lim64
    simp
    omega
  show cond (lim64 (a : Int) || lim64 (b : Int)) (T.ret (D.int ((a : Int) * (b : Int)))) .fail = _
  rw [l]
  show T.ret (D.int ((a : Int) * (b : Int))) = _
  unfold nI
  rw [Int.natCast_mul]
theorem bind_ret {α β : Type} (a : α) (f : α → T β) : (T.ret a).bind f = f a := rfl
/-! _law_further -/
@[irreducible] def fuI : Rho → T Out := sPutC 4 (eVar 7) (eBin opMulT (eVar 6) (eVar 8))
@[irreducible] def fuS : Rho → T D := eIf (eTest (eVar 3)) (eL (iItems (eCall 2 ldF (aCons (eVar 5) (aCons (eVar 2) aNil))))) (eL (lCallF 3 laF (aCons (eVar 0) (aCons (eVar 5) (aCons (eVar 2) aNil)))))
@[irreducible] def g2 (i j : Nat) : D → Rho → T Rho := gTp 2 (gsCons (gNm i) (gsCons (gNm j) gsNil))
theorem g2_val {ρ : Rho} {i j : Nat} {x y : D} : g2 i j (.tup [x, y]) ρ = .ret ((ρ.set i (.val x)).set j (.val y)) := by
  unfold g2
  rfl
@[irreducible] def fuJ : Rho → T Out := sFor (iLst fuS) (g2 7 8) fuI
theorem further_eq : m__law_further = bSeq (sOwnD 4) (bSeq (sFor (iLst (eVar 1)) (g2 5 6) fuJ) (bFreezeD 4 (sRet (eVar 4)))) := by
  unfold m__law_further fuJ fuI fuS g2 ldF laF
  rfl
/-- words that can be laced with w -/
structure Fo (c : Nat) (w : Wd') (ps : List (Wd' × Nat)) : Prop where
  c2 : c ≤ 2
  w2 : w.length ≤ 2
  ww : isWd c w = true
  few : (exW ps).length ≤ 129
  pos : ∀ p ∈ ps, 0 < p.2
  ok : ∀ p ∈ ps, isWd c p.1 = true ∧ p.1.length ≤ 4 ∧ p.1.length + w.length ≤ 5
section
variable {c : Nat} {w : Wd'} {ps : List (Wd' × Nat)} {own : Bool} {e1 e5 e6 e7 e8 : Ent} {kv : List (Wd' × Nat)} {l : List Wd'}
theorem lcall3_all {ρ : Rho} {a b c : Rho → T D} {f : List D → T (List D)} {P : List D → Prop} (h : (a ρ).all fun x => (b ρ).all fun y => (c ρ).all fun z => (f [x, y, z]).all P) : (lCallF 3 f (aCons a (aCons b (aCons c aNil))) ρ).all P :=
  T.all_bind.mpr (T.all_bind.mpr (T.all_mono (fun x hx => T.all_bind.mpr (T.all_bind.mpr (T.all_mono (fun y hy => T.all_bind.mpr (T.all_bind.mpr (T.all_mono (fun z hz => hz) hy))) hx))) h))
theorem lcallK3_all {ρ : Rho} {a b c : Rho → T D} {f : List D → T (List D)} {P : List D → Prop} (h : (a ρ).all fun x => (b ρ).all fun y => (c ρ).all fun z => (f [z, y, x]).all P) : (lCallKF 3 [2, 1, 0] f (aCons a (aCons b (aCons c aNil))) ρ).all P :=
  T.all_bind.mpr (T.all_bind.mpr (T.all_mono (fun x hx => T.all_bind.mpr (T.all_bind.mpr (T.all_mono (fun y hy => T.all_bind.mpr (T.all_bind.mpr (T.all_mono (fun z hz => hz) hy))) hx))) h))
theorem Rep.perm {α : Type} [DecidableEq α] {kv : List (α × Nat)} {l l' : List α} (r : Rep kv l) (p : l.Perm l') : Rep kv l' := ⟨r.nd, r.pos, r.pm.trans p⟩
theorem tell_ex {kv : List (Wd' × Nat)} (r : Rep kv l) : (exW (tellW kv)).Perm l := (perm_flat (tell_perm r.nd)).trans r.pm
theorem tell_pos {kv : List (Wd' × Nat)} (r : Rep kv l) : ∀ q ∈ tellW kv, 0 < q.2 := fun q hq => r.pos q ((tell_perm r.nd).mem_iff.mp hq)
theorem fuS_all {p : Wd' × Nat} (h : Fo c w ps) (hp : p ∈ ps) {x6 : Ent} {d4 : Ent} : T.all (fun d => ∃ rs : List (Wd' × Nat), d = .lst (rs.map prD) ∧ (exW rs).Perm (Lw p.1 w) ∧ ∀ q ∈ rs, 0 < q.2) (fuS [.val (.int (c : Int)), e1, .val (nw w), .val (.bl own), d4, .val (nw p.1), x6, e7, e8]) := by
  have c2 := h.c2
  have w2 := h.w2
  obtain ⟨pw, p4, p5⟩ := h.ok p hp
  unfold fuS eIf
  refine T.all_bind.mpr (all_eq (a := own) rfl ?_)
  cases own with
  | true =>
    refine eL_all (T.all_bind.mpr (call2_all (all_eq (a := nw p.1) rfl (all_eq (a := nw w) rfl (T.all_mono (fun d hd => ?_) (law_laced_all p4 w2 p5 fun l hl => by have := (isWd_len pw l hl).1; omega))))))
    obtain ⟨kv, rfl, r⟩ := hd
    refine ⟨kv, ?_, (r.pm.trans (Lw_ll p4 w2 p5).symm), r.pos⟩
    show D.lst ((dD kv).map fun p => .tup [p.1, p.2]) = _
    unfold dD
    rw [List.map_map]
    rfl
  | false =>
    refine eL_all (lcall3_all (all_eq (a := .int (c : Int)) rfl (all_eq (a := nw p.1) rfl (all_eq (a := nw w) rfl (T.all_mono (fun d hd => ?_) (lacings_all pw h.ww (by omega) p4 (by omega)))))))
    obtain ⟨kv, r, rfl⟩ := hd
    exact ⟨tellW kv, rfl, tell_ex r, tell_pos r⟩
def St (c : Nat) (w : Wd') (own : Bool) (e1 : Ent) (x5 x6 : Ent) (kv : List (Wd' × Nat)) (ρ : Rho) : Prop := ∃ y7 y8, ρ = [.val (.int (c : Int)), e1, .val (nw w), .val (.bl own), .ownD (dD kv), x5, x6, y7, y8]
theorem fuI_val {x0 x1 x2 x3 x5 : Ent} {o m : Nat} {u : Wd'} (ho : o ≤ 1000) (hk : kv.length ≤ 100000) : fuI [x0, x1, x2, x3, .ownD (dD kv), x5, .val (nI o), .val (nw u), .val (nI m)] = .ret (.nx [x0, x1, x2, x3, .ownD (dD (addW kv u (o * m))), x5, .val (nI o), .val (nw u), .val (nI m)]) := by
  have mv : eBin opMulT (eVar 6) (eVar 8) [x0, x1, x2, x3, .ownD (dE encW kv), x5, .val (nI o), .val (nw u), .val (nI m)] = .ret (nI (o * m)) := by
    simp only [eBin, eVar, List.getElem?_cons_succ, List.getElem?_cons_zero, T.bind, mul_nI (a := o) (b := m) ho]
  have pc := putC_add encW (ρ := [x0, x1, x2, x3, .ownD (dE encW kv), x5, .val (nI o), .val (nw u), .val (nI m)]) (i := 4) (kv := kv) (k := u) (n := o * m) (mk := eVar 7) (mv := eBin opMulT (eVar 6) (eVar 8)) rfl rfl mv hk
  unfold fuI
  rw [← dE_W, ← dE_W, pc]
  simp only [List.set_cons_succ, List.set_cons_zero]
theorem fuJ_all {p : Wd' × Nat} (h : Fo c w ps) (hp : p ∈ ps) (r : Rep kv l) (hl : l.length + (cop p.2 (Lw p.1 w)).length ≤ 100000) : T.all (fun o => ∃ kv' ρ', o = .nx ρ' ∧ Rep kv' (l ++ cop p.2 (Lw p.1 w)) ∧ ∃ x5 x6, St c w own e1 x5 x6 kv' ρ') (fuJ [.val (.int (c : Int)), e1, .val (nw w), .val (.bl own), .ownD (dD kv), .val (nw p.1), .val (nI p.2), e7, e8]) := by
  have pc : p.2 ≤ 129 := Nat.le_trans (ex_le hp) h.few
  unfold fuJ
  refine T.all_bind.mpr (T.all_bind.mpr (T.all_mono (fun d hd => ?_) (fuS_all h hp)))
  obtain ⟨rs, rfl, pm, ps0⟩ := hd
  have pm2 : (rs.flatMap fun q => List.replicate (p.2 * q.2) q.1).Perm (cop p.2 (Lw p.1 w)) := (cop_times p.2 rs).trans (cop_perm pm p.2)
  show T.all _ (forT (fun d ρ => (g2 7 8 d ρ).bind fuI) (rs.map prD) [.val (.int (c : Int)), e1, .val (nw w), .val (.bl own), .ownD (dD kv), .val (nw p.1), .val (nI p.2), e7, e8])
  refine T.all_mono (fun o ho => ?_) (forE (N := 100000) (g := prD) (F := fun q : Wd' × Nat => List.replicate (p.2 * q.2) q.1) (S := St c w own e1 (.val (nw p.1)) (.val (nI p.2))) (fun q hq l kv ρ r s n => ?_) r ⟨_, _, rfl⟩ (by rw [pm2.length_eq]; exact hl))
  · obtain ⟨kv', ρ', rfl, r', s'⟩ := ho
    exact ⟨kv', ρ', rfl, r'.perm ((List.Perm.refl l).append pm2), _, _, s'⟩
  · obtain ⟨y7, y8, rfl⟩ := s
    show T.all _ ((g2 7 8 (.tup [nw q.1, nI q.2]) _).bind fuI)
    rw [g2_val, bind_ret]
    have kl := r.len
    have pos : 0 < p.2 * q.2 := Nat.mul_pos (h.pos p hp) (ps0 q hq)
    have fe := fuI_val (x0 := .val (.int (c : Int))) (x1 := e1) (x2 := .val (nw w)) (x3 := .val (.bl own)) (x5 := .val (nw p.1)) (kv := kv) (u := q.1) (o := p.2) (m := q.2) (by omega) (by omega)
    refine all_eq fe ?_
    exact ⟨addW kv q.1 (p.2 * q.2), _, rfl, r.add q.1 pos, .val (nw q.1), .val (nI q.2), rfl⟩
@[irreducible] def fuF : List D → T D := f__law_further
theorem further_all (h : Fo c w ps) (own : Bool) : T.all (fun d => ∃ kv, d = .dic (dD kv) ∧ Rep kv ((exW ps).flatMap fun u => Lw u w)) (fuF [.int (c : Int), .lst (ps.map prD), nw w, .bl own]) := by
  have tot : (ps.flatMap fun p => cop p.2 (Lw p.1 w)).length ≤ 16641 := by
    rw [cop_ex (fun u => Lw u w)]
    have w2 := h.w2
    refine Nat.le_trans (flat_len (K := 129) fun u hu => ?_) (Nat.mul_le_mul_right 129 h.few)
    obtain ⟨p, hp, hk⟩ := List.mem_flatMap.mp hu
    rw [List.eq_of_mem_replicate hk]
    exact Lw_few _ _ (h.ok p hp).2.1 (by omega)
  unfold fuF f__law_further runB
  rw [further_eq]
  refine T.all_bind.mpr (seq_nx ⟨[.val (.int (c : Int)), .val (.lst (ps.map prD)), .val (nw w), .val (.bl own), .ownD (dD []), .un, .un, .un, .un], rfl, ?_⟩)
  refine seq_nx ?_
  show T.all _ (forT (fun d ρ => (g2 5 6 d ρ).bind fuJ) (ps.map prD) [.val (.int (c : Int)), .val (.lst (ps.map prD)), .val (nw w), .val (.bl own), .ownD (dD []), .un, .un, .un, .un])
  refine T.all_mono (fun o ho => ?_) (forE (N := 100000) (g := prD) (F := fun p : Wd' × Nat => cop p.2 (Lw p.1 w)) (S := fun kv ρ => ∃ x5 x6, St c w own (.val (.lst (ps.map prD))) x5 x6 kv ρ) (l := []) (fun p hp l kv ρ r s n => ?_) Rep.nil ⟨_, _, _, _, rfl⟩ (by simp only [List.length_nil]; omega))
  · obtain ⟨kv', ρ', rfl, r', x5, x6, y7, y8, rfl⟩ := ho
    rw [List.nil_append, cop_ex (fun u => Lw u w)] at r'
    exact ⟨_, rfl, kv', rfl, r'⟩
  · obtain ⟨x5, x6, y7, y8, rfl⟩ := s
    show T.all _ ((g2 5 6 (.tup [nw p.1, nI p.2]) _).bind fuJ)
    rw [g2_val, bind_ret]
    exact fuJ_all h hp r n
end
end Pd

/-! The law's def, by parts. -/
namespace Pd
open PySem L2 PySem.W PySem.Spec PyProof.Rows
@[irreducible] def drF (n : Int) : Rho → T D := eCall 2 f__law_draw (aCons (eVar 0) (aCons (eC (.int n)) aNil))
@[irreducible] def Ql (i : Nat) : Rho → T D := eCa bLen (aCons (eVar i) aNil)
@[irreducible] def Qw (m : Rho → T D) : Rho → T D := eCall 3 woF (aCons (eVar 0) (aCons (eVar 1) (aCons m aNil)))
@[irreducible] def Qa (i j : Nat) : Rho → T (List D) := lCallF 3 laF (aCons (eVar 1) (aCons (eVar i) (aCons (eVar j) aNil)))
@[irreducible] def Qf (i j : Nat) : Rho → T D := eCall 4 fuF (aCons (eVar 1) (aCons (eVar i) (aCons (eVar j) (aCons (eC (.bl false)) aNil))))
@[irreducible] def Qc (i : Nat) : Rho → T D := eCall 2 cuF (aCons (eVar 1) (aCons (eVar i) aNil))
@[irreducible] def P1 : Rho → T Out := sSet 1 (drF 3)
@[irreducible] def P2 : Rho → T Out := sPar 5 6 (Qw (drF 3)) (Qw (drF 3))
@[irreducible] def P3m : Rho → T D := eIf (eTest (eBin opLt (eBin opAdd (Ql 5) (Ql 6)) (eC (.int 4)))) (drF 3) (eC (.int 1))
@[irreducible] def P3 : Rho → T Out := sSet 2 (Qw P3m)
@[irreducible] def P4 : Rho → T Out := sPar 7 8 (eL (Qa 5 6)) (eL (Qa 6 2))
@[irreducible] def P5 : Rho → T Out := sPar 9 10 (Qf 7 2) (Qf 8 5)
@[irreducible] def P6s : Rho → T D := eL (lCa bSorted (aCons (eL (iItems (eCall 2 ldF (aCons (eVar 5) (aCons (eVar 6) aNil))))) aNil))
@[irreducible] def P6 : Rho → T Out := sSet 3 (eCall 4 fuF (aCons (eVar 1) (aCons P6s (aCons (eVar 2) (aCons (eC (.bl true)) aNil)))))
@[irreducible] def P7 : Rho → T Out := sIf (tOr' (eTest (eBin opNeD (eVar 9) (eVar 3))) (eTest (eBin opNeD (eVar 10) (eVar 3)))) (sRet (eC (.bl false))) bNil
@[irreducible] def P9i : Rho → T Out := sPutC 11 (eVar 15) (eVar 14)
@[irreducible] def P9j : Rho → T Out := sFor (iLst (Qc 13)) (gNm 15) P9i
@[irreducible] def P9 : Rho → T Out := sFor (iLst (eVar 7)) (g2 13 14) P9j
@[irreducible] def P10i : Rho → T Out := sPutC 12 (eTup (aCons (eVar 13) (aCons (eVar 20) aNil))) (eBin opMulT (eVar 14) (eVar 21))
@[irreducible] def P10j : Rho → T Out := sFor (iLst (eL (Qa 17 19))) (g2 20 21) P10i
@[irreducible] def P10k : Rho → T Out := sFor (iLst (eL (Qa 16 18))) (g2 13 14) P10j
@[irreducible] def P10l : Rho → T Out := sFor (iLst (Qc 6)) (g2 18 19) P10k
@[irreducible] def P10 : Rho → T Out := sFor (iLst (Qc 5)) (g2 16 17) P10l
@[irreducible] def P11 : Rho → T Out := sIf (eTest (eBin opNeD (eVar 11) (eVar 12))) (sRet (eC (.bl false))) bNil
@[irreducible] def P12c : Rho → T (List D) := lComp [13, 14] (iLst (eVar 7)) (g2 13 14) yesT (eTup (aCons (eRevT (eVar 13)) (aCons (eVar 14) aNil)))
@[irreducible] def P12 : Rho → T Out := sOwn 4 (lCa bSorted (aCons (eL P12c) aNil))
@[irreducible] def P13 : Rho → T Out := sIf (eTest (eBin opNeD (eCall 2 tuF (aCons (eVar 1) (aCons (eVar 5) aNil))) (eRevT (eVar 5)))) (sRet (eC (.bl false))) bNil
@[irreducible] def P14a : Rho → T (List D) := lCallF 3 laF (aCons (eVar 1) (aCons (eRevT (eVar 5)) (aCons (eCallK 2 [1, 0] tuF (aCons (eVar 6) (aCons (eVar 1) aNil))) aNil)))
@[irreducible] def P14 : Rho → T Out := sIf (eTest (eBin opNeD (eL P14a) (eVar 4))) (sRet (eC (.bl false))) bNil
@[irreducible] def P15a : Rho → T (List D) := lCallF 3 laF (aCons (eVar 1) (aCons (eVar 5) (aCons (eTup aNil) aNil)))
@[irreducible] def P15b : Rho → T (List D) := lCallKF 3 [2, 1, 0] laF (aCons (eVar 5) (aCons (eTup aNil) (aCons (eVar 1) aNil)))
@[irreducible] def P15l : Rho → T (List D) := lLst (aCons (eTup (aCons (eVar 5) (aCons (eC (.int 1)) aNil))) aNil)
@[irreducible] def P15 : Rho → T Out := sRet (eAnd (eBin opEqF (eL P15a) (eL P15l)) (eBin opEqF (eL P15b) (eL P15l)))
theorem right_eq : m__law_right = bSeq P1 (bSeq P2 (bSeq P3 (bSeq P4 (bSeq P5 (bSeq P6 (bSeq P7 (bSeq (sParDD 11 12) (bSeq P9 (bSeq P10 (bFreezeD 12 (bFreezeD 11 (bSeq P11 (bSeq P12 (bSeq P13 (bFreeze 4 (bSeq P14 P15)))))))))))))))) := by
  unfold m__law_right P1 P2 P3 P4 P5 P6 P7 P9 P10 P11 P12 P13 P14 P15 P15l P15b P15a P14a P12c P10l P10k P10j P10i P9j P9i P6s P3m Qc Qf Qa Qw Ql drF g2 woF laF ldF fuF cuF tuF
  rfl
abbrev z (c : Nat) (e2 e3 e4 e5 e6 e7 e8 e9 e10 e11 e12 e13 e14 e15 e16 e17 e18 e19 e20 e21 : Ent) : Rho := [.val .pot, .val (.int (c : Int)), e2, e3, e4, e5, e6, e7, e8, e9, e10, e11, e12, e13, e14, e15, e16, e17, e18, e19, e20, e21]
theorem drF_at {ρ : Rho} {n : Nat} (h : ρ[0]? = some (.val .pot)) (a : 0 < n) (b : n ≤ 1000000) : drF (n : Int) ρ = .draw n fun i => .ret (.int (i : Int)) := by
  unfold drF
  exact drawE h rfl a b
theorem Qw_all {ρ : Rho} {m : Rho → T D} {c : Nat} (h0 : ρ[0]? = some (.val .pot)) (h1 : ρ[1]? = some (.val (.int (c : Int)))) (hc : c ≤ 2) (hm : (m ρ).all fun d => ∃ i : Nat, d = .int (i : Int) ∧ i ≤ 2) : T.all (fun d => ∃ a : Wd', d = nw a ∧ a.length ≤ 2 ∧ (∀ l ∈ a, LtOk c l)) (Qw m ρ) := by
  unfold Qw
  refine call3_all (all_eq (var_val h0) (all_eq (var_val h1) (T.all_mono (fun d hd => ?_) hm)))
  obtain ⟨i, rfl, hi⟩ := hd
  refine T.all_mono (fun d hd => ?_) (wo_all (n := i) (show c ≤ 3 by omega) (by omega))
  obtain ⟨ls, rfl, hl, g⟩ := hd
  exact ⟨ls, rfl, by omega, g⟩
theorem Qa_all {ρ : Rho} {c i j : Nat} {a b : Wd'} (h1 : ρ[1]? = some (.val (.int (c : Int)))) (hi : ρ[i]? = some (.val (nw a))) (hj : ρ[j]? = some (.val (nw b))) (hc : c ≤ 2) (wa : isWd c a = true) (wb : isWd c b = true) (la : a.length ≤ 4) (lb : b.length ≤ 3) : T.all (fun ds => ∃ kv, Rep kv (Lw a b) ∧ ds = (tellW kv).map prD) (Qa i j ρ) := by
  unfold Qa
  exact lcall3_all (all_eq (var_val h1) (all_eq (var_val hi) (all_eq (var_val hj) (lacings_all wa wb (by omega) la lb))))
theorem call4_all {ρ : Rho} {a b c e : Rho → T D} {f : List D → T D} {P : D → Prop} (h : (a ρ).all fun x => (b ρ).all fun y => (c ρ).all fun z => (e ρ).all fun u => (f [x, y, z, u]).all P) : (eCall 4 f (aCons a (aCons b (aCons c (aCons e aNil)))) ρ).all P :=
  T.all_bind.mpr (T.all_bind.mpr (T.all_mono (fun x hx => T.all_bind.mpr (T.all_bind.mpr (T.all_mono (fun y hy => T.all_bind.mpr (T.all_bind.mpr (T.all_mono (fun z hz => T.all_bind.mpr (T.all_bind.mpr (T.all_mono (fun u hu => hu) hz))) hy))) hx))) h))
theorem Qf_all {ρ : Rho} {c i j : Nat} {ps : List (Wd' × Nat)} {w : Wd'} (h1 : ρ[1]? = some (.val (.int (c : Int)))) (hi : ρ[i]? = some (.val (.lst (ps.map prD)))) (hj : ρ[j]? = some (.val (nw w))) (h : Fo c w ps) : T.all (fun d => ∃ kv, d = .dic (dD kv) ∧ Rep kv ((exW ps).flatMap fun u => Lw u w)) (Qf i j ρ) := by
  unfold Qf
  exact call4_all (all_eq (var_val h1) (all_eq (var_val hi) (all_eq (var_val hj) (all_eq (a := .bl false) rfl (further_all h false)))))
theorem Qc_all {ρ : Rho} {c i : Nat} {u : Wd'} (h1 : ρ[1]? = some (.val (.int (c : Int)))) (hi : ρ[i]? = some (.val (nw u))) (hc : c ≤ 2) (hu : isWd c u = true) : Qc i ρ = .ret (.lst ((cutL u).map pairD)) := by
  have v := cuF_val hu (by omega)
  unfold Qc
  simp only [eCall, aCons, aNil, eVar, h1, hi, T.bind, List.length_cons, List.length_nil, BEq.rfl, cond, v]
theorem Ql_val {ρ : Rho} {i : Nat} {u : Wd'} (h : ρ[i]? = some (.val (nw u))) : Ql i ρ = .ret (nI u.length) := by
  unfold Ql
  exact len1 h
theorem Lw_all {a b : Wd'} {P : List Nat → Prop} (ha : ∀ l ∈ a, P l) (hb : ∀ l ∈ b, P l) (hab : ∀ l ∈ a, ∀ m ∈ b, P (addL l m)) : ∀ u ∈ Lw a b, u.length ≤ a.length + b.length ∧ ∀ l ∈ u, P l := fun u hu => by
  have ga : ∀ i, i < a.length → ltA a i ∈ a := fun i hi => by
    unfold ltA
    rw [List.getD_eq_getElem?_getD, List.getElem?_eq_getElem hi]
    exact List.getElem_mem hi
  have gb : ∀ i, i < b.length → ltA b i ∈ b := fun i hi => by
    unfold ltA
    rw [List.getD_eq_getElem?_getD, List.getElem?_eq_getElem hi]
    exact List.getElem_mem hi
  obtain ⟨x, _, y⟩ := lac_all (P := P) (fun i hi => ha _ (ga i hi)) (fun j hj => hb _ (gb j hj)) (fun i j hi hj => hab _ (ga i hi) _ (gb j hj)) a.length b.length (Nat.le_refl _) (Nat.le_refl _) u hu
  exact ⟨x, y⟩
/-- the three words -/
structure W3 (c : Nat) (a b w : Wd') : Prop where
  c2 : c ≤ 2
  a2 : a.length ≤ 2
  b2 : b.length ≤ 2
  w2 : w.length ≤ 2
  s5 : a.length + b.length + w.length ≤ 5
  ha : ∀ l ∈ a, LtOk c l
  hb : ∀ l ∈ b, LtOk c l
  hw : ∀ l ∈ w, LtOk c l
theorem wd_of {c k : Nat} {u : Wd'} (hk : k ≤ 8) (h : u.length ≤ 8) (g : ∀ l ∈ u, l.length = c ∧ ∀ p ∈ l, p ≤ k) : isWd c u = true := by
  unfold isWd
  rw [decide_eq_true h, Bool.true_and, List.all_eq_true]
  intro l hl
  unfold isLt
  rw [decide_eq_true (g l hl).1, Bool.true_and, List.all_eq_true]
  intro p hp
  exact decide_eq_true (by have := (g l hl).2 p hp; omega)
theorem lt_wd {c : Nat} {u : Wd'} (h : u.length ≤ 8) (g : ∀ l ∈ u, LtOk c l) : isWd c u = true := wd_of (k := 2) (by decide) h g
theorem Lw_wd {c : Nat} {a b : Wd'} (ha : ∀ l ∈ a, LtOk c l) (hb : ∀ l ∈ b, LtOk c l) (h : a.length + b.length ≤ 8) : ∀ u ∈ Lw a b, isWd c u = true ∧ u.length ≤ a.length + b.length := fun u hu => by
  have q := Lw_all (P := fun l => l.length = c ∧ ∀ p ∈ l, p ≤ 4) (fun l hl => ⟨(ha l hl).1, fun p hp => by have := (ha l hl).2 p hp; omega⟩) (fun l hl => ⟨(hb l hl).1, fun p hp => by have := (hb l hl).2 p hp; omega⟩) (fun l hl m hm => ⟨by rw [addL_len, (ha l hl).1, (hb m hm).1]; exact Nat.min_self c, fun p hp => by
    unfold addL at hp
    rw [List.zipWith_eq_zipWith_take_min, ← List.map_uncurry_zip_eq_zipWith] at hp
    obtain ⟨⟨x, y⟩, hxy, rfl⟩ := List.mem_map.mp hp
    have hx := List.mem_of_mem_take (List.of_mem_zip hxy).1
    have hy := List.mem_of_mem_take (List.of_mem_zip hxy).2
    have := (ha l hl).2 x hx
    have := (hb m hm).2 y hy
    show x + y ≤ 4
    omega⟩) u hu
  exact ⟨wd_of (k := 4) (by decide) (by omega) q.2, q.1⟩
theorem fo_of {c : Nat} {a b w : Wd'} {kv : List (Wd' × Nat)} (hc : c ≤ 2) (a2 : a.length ≤ 2) (b2 : b.length ≤ 2) (w2 : w.length ≤ 2) (s : a.length + b.length + w.length ≤ 5) (ha : ∀ l ∈ a, LtOk c l) (hb : ∀ l ∈ b, LtOk c l) (hw : ∀ l ∈ w, LtOk c l) (r : Rep kv (Lw a b)) : Fo c w (tellW kv) where
  c2 := hc
  w2 := w2
  ww := lt_wd (by omega) hw
  few := by
    rw [(tell_ex r).length_eq]
    exact Lw_few a b (by omega) (by omega)
  pos := tell_pos r
  ok := fun p hp => by
    have m : p.1 ∈ Lw a b := (r.mem p.1).mp (mem_tell hp).1
    have q := Lw_wd ha hb (by omega) p.1 m
    exact ⟨q.1, by omega, by omega⟩
section
variable {c : Nat} {a b w : Wd'} {k1 k2 k3 kl kr : List (Wd' × Nat)} {e1 e2 e3 e4 e5 e6 e7 e8 e9 e10 e11 e12 e13 e14 e15 e16 e17 e18 e19 e20 e21 : Ent}
theorem p1 : T.all (fun o => ∃ c : Nat, o = .nx (z c e2 e3 e4 e5 e6 e7 e8 e9 e10 e11 e12 e13 e14 e15 e16 e17 e18 e19 e20 e21) ∧ c ≤ 2) (P1 [.val .pot, e1, e2, e3, e4, e5, e6, e7, e8, e9, e10, e11, e12, e13, e14, e15, e16, e17, e18, e19, e20, e21]) := by
  unfold P1
  exact set_all (all_dr (drF_at (n := 3) rfl (by decide) (by decide)) fun i hi => ⟨i, rfl, by omega⟩)
theorem p2 (hc : c ≤ 2) : T.all (fun o => ∃ a b : Wd', o = .nx (z c e2 e3 e4 (.val (nw a)) (.val (nw b)) e7 e8 e9 e10 e11 e12 e13 e14 e15 e16 e17 e18 e19 e20 e21) ∧ a.length ≤ 2 ∧ b.length ≤ 2 ∧ (∀ l ∈ a, LtOk c l) ∧ ∀ l ∈ b, LtOk c l) (P2 (z c e2 e3 e4 e5 e6 e7 e8 e9 e10 e11 e12 e13 e14 e15 e16 e17 e18 e19 e20 e21)) := by
  unfold P2
  refine par_all (T.all_mono (fun d hd => ?_) (Qw_all (c := c) rfl rfl hc (all_dr (drF_at (n := 3) rfl (by decide) (by decide)) fun i hi => ⟨i, rfl, by omega⟩)))
  obtain ⟨a, rfl, la, ga⟩ := hd
  refine T.all_mono (fun d hd => ?_) (Qw_all (c := c) rfl rfl hc (all_dr (drF_at (n := 3) rfl (by decide) (by decide)) fun i hi => ⟨i, rfl, by omega⟩))
  obtain ⟨b, rfl, lb, gb⟩ := hd
  exact ⟨a, b, rfl, la, lb, ga, gb⟩
theorem p4 (h : W3 c a b w) : T.all (fun o => ∃ k1 k2, o = .nx (z c (.val (nw w)) e3 e4 (.val (nw a)) (.val (nw b)) (.val (.lst ((tellW k1).map prD))) (.val (.lst ((tellW k2).map prD))) e9 e10 e11 e12 e13 e14 e15 e16 e17 e18 e19 e20 e21) ∧ Rep k1 (Lw a b) ∧ Rep k2 (Lw b w)) (P4 (z c (.val (nw w)) e3 e4 (.val (nw a)) (.val (nw b)) e7 e8 e9 e10 e11 e12 e13 e14 e15 e16 e17 e18 e19 e20 e21)) := by
  have a2 := h.a2
  have b2 := h.b2
  have w2 := h.w2
  unfold P4
  refine par_all (eL_all (T.all_mono (fun d hd => ?_) (Qa_all (c := c) (a := a) (b := b) rfl rfl rfl h.c2 (lt_wd (by omega) h.ha) (lt_wd (by omega) h.hb) (by omega) (by omega))))
  obtain ⟨k1, r1, rfl⟩ := hd
  refine eL_all (T.all_mono (fun d hd => ?_) (Qa_all (c := c) (a := b) (b := w) rfl rfl rfl h.c2 (lt_wd (by omega) h.hb) (lt_wd (by omega) h.hw) (by omega) (by omega)))
  obtain ⟨k2, r2, rfl⟩ := hd
  exact ⟨k1, k2, rfl, r1, r2⟩
theorem p5 (h : W3 c a b w) (r1 : Rep k1 (Lw a b)) (r2 : Rep k2 (Lw b w)) : T.all (fun o => ∃ n f, o = .nx (z c (.val (nw w)) e3 e4 (.val (nw a)) e6 (.val (.lst ((tellW k1).map prD))) (.val (.lst ((tellW k2).map prD))) (.val (.dic (dD n))) (.val (.dic (dD f))) e11 e12 e13 e14 e15 e16 e17 e18 e19 e20 e21) ∧ Rep n ((Lw a b).flatMap fun u => Lw u w) ∧ Rep f ((Lw a b).flatMap fun u => Lw u w)) (P5 (z c (.val (nw w)) e3 e4 (.val (nw a)) e6 (.val (.lst ((tellW k1).map prD))) (.val (.lst ((tellW k2).map prD))) e9 e10 e11 e12 e13 e14 e15 e16 e17 e18 e19 e20 e21)) := by
  have s5 := h.s5
  unfold P5
  refine par_all (T.all_mono (fun d hd => ?_) (Qf_all (c := c) (w := w) rfl rfl rfl (fo_of h.c2 h.a2 h.b2 h.w2 s5 h.ha h.hb h.hw r1)))
  obtain ⟨n, rfl, rn⟩ := hd
  refine T.all_mono (fun d hd => ?_) (Qf_all (c := c) (w := a) rfl rfl rfl (fo_of h.c2 h.b2 h.w2 h.a2 (by omega) h.hb h.hw h.ha r2))
  obtain ⟨f, rfl, rf⟩ := hd
  exact ⟨n, f, rfl, rn.perm (perm_flat (tell_ex r1)), rf.perm ((perm_flat (tell_ex r2)).trans (three_ok h.a2 h.b2 h.w2 s5))⟩
theorem p6 (h : W3 c a b w) : T.all (fun o => ∃ k3, o = .nx (z c (.val (nw w)) (.val (.dic (dD k3))) e4 (.val (nw a)) (.val (nw b)) e7 e8 e9 e10 e11 e12 e13 e14 e15 e16 e17 e18 e19 e20 e21) ∧ Rep k3 ((Lw a b).flatMap fun u => Lw u w)) (P6 (z c (.val (nw w)) e3 e4 (.val (nw a)) (.val (nw b)) e7 e8 e9 e10 e11 e12 e13 e14 e15 e16 e17 e18 e19 e20 e21)) := by
  have a2 := h.a2
  have b2 := h.b2
  have c2 := h.c2
  have sr : T.all (fun d => ∃ kv, d = .lst ((tellW kv).map prD) ∧ Rep kv (Lw a b)) (P6s (z c (.val (nw w)) e3 e4 (.val (nw a)) (.val (nw b)) e7 e8 e9 e10 e11 e12 e13 e14 e15 e16 e17 e18 e19 e20 e21)) := by
    unfold P6s
    refine eL_all (T.all_bind.mpr (T.all_bind.mpr (eL_all (T.all_bind.mpr (call2_all (all_eq (a := nw a) rfl (all_eq (a := nw b) rfl (T.all_mono (fun d hd => ?_) (law_laced_all (a := a) (b := b) (by omega) b2 (by omega) fun l hl => by rw [(h.ha l hl).1]; omega)))))))))
    obtain ⟨kv, rfl, r⟩ := hd
    have r' : Rep kv (Lw a b) := r.perm (Lw_ll (by omega) b2 (by omega)).symm
    have rl := r'.len
    have few := Lw_few a b (by omega) (by omega)
    have s := sort_items (kv := kv) (by omega)
    have e : ((dD kv).map fun p : D × D => D.tup [p.1, p.2]) = kv.map prD := by
      unfold dD
      rw [List.map_map]
      rfl
    show T.all _ (bSorted [.lst ((dD kv).map fun p => .tup [p.1, p.2])])
    rw [e]
    refine all_eq (show bSorted [.lst (kv.map prD)] = _ from s) ?_
    rw [← tell_due r r (List.Perm.refl _)]
    exact ⟨kv, rfl, r'⟩
  unfold P6
  refine set_all (call4_all (all_eq (a := .int (c : Int)) rfl (T.all_mono (fun d hd => ?_) sr)))
  obtain ⟨kv, rfl, r⟩ := hd
  refine all_eq (a := nw w) rfl (all_eq (a := .bl true) rfl (T.all_mono (fun d hd => ?_) (further_all (fo_of h.c2 h.a2 h.b2 h.w2 h.s5 h.ha h.hb h.hw r) true)))
  obtain ⟨k3, rfl, r3⟩ := hd
  exact ⟨k3, rfl, r3.perm (perm_flat (tell_ex r))⟩
theorem p7 {n f : List (Wd' × Nat)} {L : List Wd'} (rn : Rep n L) (rf : Rep f L) (r3 : Rep k3 L) : T.all (fun o => o = .nx (z c e2 (.val (.dic (dD k3))) e4 e5 e6 e7 e8 (.val (.dic (dD n))) (.val (.dic (dD f))) e11 e12 e13 e14 e15 e16 e17 e18 e19 e20 e21)) (P7 (z c e2 (.val (.dic (dD k3))) e4 e5 e6 e7 e8 (.val (.dic (dD n))) (.val (.dic (dD f))) e11 e12 e13 e14 e15 e16 e17 e18 e19 e20 e21)) := by
  have d1 := dic_ne encW rn r3 (List.Perm.refl _)
  have d2 := dic_ne encW rf r3 (List.Perm.refl _)
  unfold P7
  refine if_no (or_false' (test_all (bin_all (all_eq (a := .dic (dD n)) rfl (all_eq (a := .dic (dD k3)) rfl (all_eq d1 rfl))))) (test_all (bin_all (all_eq (a := .dic (dD f)) rfl (all_eq (a := .dic (dD k3)) rfl (all_eq d2 rfl)))))) rfl
end
end Pd

/-! The law's def, by parts: cuts, turned words; it comes out true. -/
namespace Pd
open PySem L2 PySem.W PySem.Spec PyProof.Rows
theorem Qw_all2 {ρ : Rho} {m : Rho → T D} {c N : Nat} (h0 : ρ[0]? = some (.val .pot)) (h1 : ρ[1]? = some (.val (.int (c : Int)))) (hc : c ≤ 2) (hN : N ≤ 100) (hm : (m ρ).all fun d => ∃ i : Nat, d = .int (i : Int) ∧ i ≤ N) : T.all (fun d => ∃ a : Wd', d = nw a ∧ a.length ≤ N ∧ (∀ l ∈ a, LtOk c l)) (Qw m ρ) := by
  unfold Qw
  refine call3_all (all_eq (var_val h0) (all_eq (var_val h1) (T.all_mono (fun d hd => ?_) hm)))
  obtain ⟨i, rfl, hi⟩ := hd
  refine T.all_mono (fun d hd => ?_) (wo_all (n := i) (show c ≤ 3 by omega) (by omega))
  obtain ⟨ls, rfl, hl, g⟩ := hd
  exact ⟨ls, rfl, by omega, g⟩
section
variable {α β : Type}
theorem flat_rep (n : Nat) (l : List α) : (l.flatMap fun x => List.replicate n x).Perm (cop n l) := by
  have e : exW (l.map fun x => (x, 1)) = l := by
    induction l with
    | nil => rfl
    | cons x l ih =>
      show List.replicate 1 x ++ exW (l.map fun x => (x, 1)) = x :: l
      rw [ih]
      rfl
  have t := cop_times n (l.map fun x => (x, 1))
  rw [e, List.flatMap_map] at t
  simp only [Nat.mul_one] at t
  exact t
theorem ex_map (f : α → β) : ∀ rs : List (α × Nat), exW (rs.map fun q => (f q.1, q.2)) = (exW rs).map f
  | [] => rfl
  | q :: rs => by
    have e : ∀ {γ : Type} (p : γ × Nat) (r : List (γ × Nat)), exW (p :: r) = List.replicate p.2 p.1 ++ exW r := fun p r => by simp [exW]
    rw [List.map_cons, e, e, ex_map f rs, List.map_append, List.map_replicate]
end
theorem cut_in {c : Nat} {a : Wd'} {x : Wd' × Wd'} (h : x ∈ cutL a) (g : ∀ l ∈ a, LtOk c l) : x.1.length ≤ a.length ∧ x.2.length ≤ a.length ∧ (∀ l ∈ x.1, LtOk c l) ∧ ∀ l ∈ x.2, LtOk c l := by
  obtain ⟨p, _, rfl⟩ := List.mem_map.mp h
  refine ⟨?_, ?_, fun l hl => g l (List.mem_of_mem_take hl), fun l hl => g l (List.mem_of_mem_drop hl)⟩
  · rw [List.length_take]; omega
  · rw [List.length_drop]; omega
section
variable {c : Nat} {a b w : Wd'} {k1 k2 k3 kl kr : List (Wd' × Nat)} {kv : List ((Wd' × Wd') × Nat)} {l : List (Wd' × Wd')} {x y : Wd' × Wd'} {p q : Wd' × Nat} {e1 e2 e3 e4 e5 e6 e7 e8 e9 e10 e11 e12 e13 e14 e15 e16 e17 e18 e19 e20 e21 : Ent}
theorem p3 (hc : c ≤ 2) (a2 : a.length ≤ 2) (b2 : b.length ≤ 2) : T.all (fun o => ∃ w : Wd', o = .nx (z c (.val (nw w)) e3 e4 (.val (nw a)) (.val (nw b)) e7 e8 e9 e10 e11 e12 e13 e14 e15 e16 e17 e18 e19 e20 e21) ∧ w.length ≤ 2 ∧ a.length + b.length + w.length ≤ 5 ∧ ∀ l ∈ w, LtOk c l) (P3 (z c e2 e3 e4 (.val (nw a)) (.val (nw b)) e7 e8 e9 e10 e11 e12 e13 e14 e15 e16 e17 e18 e19 e20 e21)) := by
  have ad : eBin opAdd (Ql 5) (Ql 6) (z c e2 e3 e4 (.val (nw a)) (.val (nw b)) e7 e8 e9 e10 e11 e12 e13 e14 e15 e16 e17 e18 e19 e20 e21) = .ret (nI (a.length + b.length)) := by
    simp only [eBin, Ql_val (ρ := (z c e2 e3 e4 (.val (nw a)) (.val (nw b)) e7 e8 e9 e10 e11 e12 e13 e14 e15 e16 e17 e18 e19 e20 e21)) (i := 5) (u := a) rfl, Ql_val (ρ := (z c e2 e3 e4 (.val (nw a)) (.val (nw b)) e7 e8 e9 e10 e11 e12 e13 e14 e15 e16 e17 e18 e19 e20 e21)) (i := 6) (u := b) rfl, T.bind]
    show T.ret (D.int ((a.length : Int) + (b.length : Int))) = _
    unfold nI
    rw [Int.natCast_add]
  have t : eTest (eBin opLt (eBin opAdd (Ql 5) (Ql 6)) (eC (.int 4))) (z c e2 e3 e4 (.val (nw a)) (.val (nw b)) e7 e8 e9 e10 e11 e12 e13 e14 e15 e16 e17 e18 e19 e20 e21) = .ret (decide (a.length + b.length < 4)) := by
    generalize eBin opAdd (Ql 5) (Ql 6) = X at ad
    simp only [eTest, eBin, ad, eC, T.bind]
    show T.ret (decide (((a.length + b.length : Nat) : Int) < 4)) = _
    congr 1
    exact decide_eq_decide.mpr (by omega)
  unfold P3
  by_cases h : a.length + b.length < 4
  · rw [decide_eq_true h] at t
    refine set_all (T.all_mono (fun d hd => ?_) (Qw_all2 (c := c) (N := 2) rfl rfl hc (by decide) ?_))
    · obtain ⟨w, rfl, hw, g⟩ := hd
      exact ⟨w, rfl, hw, by omega, g⟩
    · unfold P3m eIf
      rw [t]
      show T.all _ (drF 3 _)
      exact all_dr (drF_at (n := 3) rfl (by decide) (by decide)) fun i hi => ⟨i, rfl, by omega⟩
  · rw [decide_eq_false h] at t
    refine set_all (T.all_mono (fun d hd => ?_) (Qw_all2 (c := c) (N := 1) rfl rfl hc (by decide) ?_))
    · obtain ⟨w, rfl, hw, g⟩ := hd
      exact ⟨w, rfl, by omega, by omega, g⟩
    · unfold P3m eIf
      rw [t]
      exact ⟨1, rfl, by omega⟩
/-! the left one -/
theorem P9i_val (hk : kv.length ≤ 100000) {n : Nat} : P9i (z c e2 e3 e4 e5 e6 e7 e8 e9 e10 (.ownD (dE encP kv)) e12 e13 (.val (nI n)) (.val (pairD x)) e16 e17 e18 e19 e20 e21) = .ret (.nx (z c e2 e3 e4 e5 e6 e7 e8 e9 e10 (.ownD (dE encP (addW kv x n))) e12 e13 (.val (nI n)) (.val (pairD x)) e16 e17 e18 e19 e20 e21)) := by
  have pc := putC_add encP (ρ := (z c e2 e3 e4 e5 e6 e7 e8 e9 e10 (.ownD (dE encP kv)) e12 e13 (.val (nI n)) (.val (pairD x)) e16 e17 e18 e19 e20 e21)) (i := 11) (kv := kv) (k := x) (n := n) (mk := eVar 15) (mv := eVar 14) rfl rfl rfl hk
  unfold P9i
  rw [pc]
  simp only [List.set_cons_succ, List.set_cons_zero]
theorem p9j (hc : c ≤ 2) (hw : isWd c p.1 = true) (hp : 0 < p.2) (r : Rep kv l) (hl : l.length + (cop p.2 (cutL p.1)).length ≤ 100000) : T.all (fun o => ∃ kv' ρ', o = .nx ρ' ∧ Rep kv' (l ++ cop p.2 (cutL p.1)) ∧ ∃ y15, ρ' = (z c e2 e3 e4 e5 e6 e7 e8 e9 e10 (.ownD (dE encP kv')) e12 (.val (nw p.1)) (.val (nI p.2)) y15 e16 e17 e18 e19 e20 e21)) (P9j (z c e2 e3 e4 e5 e6 e7 e8 e9 e10 (.ownD (dE encP kv)) e12 (.val (nw p.1)) (.val (nI p.2)) e15 e16 e17 e18 e19 e20 e21)) := by
  have pm := flat_rep p.2 (cutL p.1)
  unfold P9j
  refine T.all_bind.mpr (T.all_bind.mpr (all_eq (Qc_all (c := c) (u := p.1) rfl rfl hc hw) ?_))
  show T.all _ (forT (fun d ρ => (gNm 15 d ρ).bind P9i) ((cutL p.1).map pairD) (z c e2 e3 e4 e5 e6 e7 e8 e9 e10 (.ownD (dE encP kv)) e12 (.val (nw p.1)) (.val (nI p.2)) e15 e16 e17 e18 e19 e20 e21))
  refine T.all_mono (fun o ho => ?_) (forE (N := 100000) (g := pairD) (F := fun x => List.replicate p.2 x) (S := fun kv' ρ' => ∃ y15, ρ' = (z c e2 e3 e4 e5 e6 e7 e8 e9 e10 (.ownD (dE encP kv')) e12 (.val (nw p.1)) (.val (nI p.2)) y15 e16 e17 e18 e19 e20 e21)) (fun x hx l kv ρ r s n => ?_) r ⟨_, rfl⟩ (by rw [pm.length_eq]; exact hl))
  · obtain ⟨kv', ρ', rfl, r', s'⟩ := ho
    exact ⟨kv', ρ', rfl, r'.perm ((List.Perm.refl l).append pm), s'⟩
  · obtain ⟨y15, rfl⟩ := s
    have rl := r.len
    show T.all _ ((T.ret (z c e2 e3 e4 e5 e6 e7 e8 e9 e10 (.ownD (dE encP kv)) e12 (.val (nw p.1)) (.val (nI p.2)) (.val (pairD x)) e16 e17 e18 e19 e20 e21)).bind P9i)
    rw [bind_ret]
    exact all_eq (P9i_val (by omega)) ⟨addW kv x p.2, _, rfl, r.add x hp, _, rfl⟩
theorem cut_len {u : Wd'} (h : u.length ≤ 8) : (cutL u).length ≤ 9 := by
  unfold cutL
  rw [List.length_map, List.length_range]
  omega
theorem left_len (h : W3 c a b w) : ((Lw a b).flatMap cutL).length ≤ 2000 := by
  have a2 := h.a2
  have b2 := h.b2
  have few := Lw_few a b (by omega) (by omega)
  have := flat_len (f := cutL) (K := 9) (l := Lw a b) fun u hu => cut_len (by have := (Lw_wd h.ha h.hb (by omega) u hu).2; omega)
  omega
theorem p9 (h : W3 c a b w) (r1 : Rep k1 (Lw a b)) : T.all (fun o => ∃ kv y13 y14 y15, o = .nx (z c e2 e3 e4 e5 e6 (.val (.lst ((tellW k1).map prD))) e8 e9 e10 (.ownD (dE encP kv)) e12 y13 y14 y15 e16 e17 e18 e19 e20 e21) ∧ Rep kv ((Lw a b).flatMap cutL)) (P9 (z c e2 e3 e4 e5 e6 (.val (.lst ((tellW k1).map prD))) e8 e9 e10 (.ownD []) e12 e13 e14 e15 e16 e17 e18 e19 e20 e21)) := by
  have a2 := h.a2
  have b2 := h.b2
  have pm : ((tellW k1).flatMap fun p => cop p.2 (cutL p.1)).Perm ((Lw a b).flatMap cutL) := by
    rw [cop_ex cutL]
    exact perm_flat (tell_ex r1)
  have ll := left_len h
  unfold P9
  show T.all _ (forT (fun d ρ => (g2 13 14 d ρ).bind P9j) ((tellW k1).map prD) (z c e2 e3 e4 e5 e6 (.val (.lst ((tellW k1).map prD))) e8 e9 e10 (.ownD (dE encP [])) e12 e13 e14 e15 e16 e17 e18 e19 e20 e21))
  refine T.all_mono (fun o ho => ?_) (forE (N := 100000) (g := prD) (F := fun p : Wd' × Nat => cop p.2 (cutL p.1)) (S := fun kv' ρ' => ∃ y13 y14 y15, ρ' = (z c e2 e3 e4 e5 e6 (.val (.lst ((tellW k1).map prD))) e8 e9 e10 (.ownD (dE encP kv')) e12 y13 y14 y15 e16 e17 e18 e19 e20 e21)) (l := []) (fun p hp l kv ρ r s n => ?_) Rep.nil ⟨_, _, _, rfl⟩ (by rw [pm.length_eq]; simp only [List.length_nil]; omega))
  · obtain ⟨kv', ρ', rfl, r', y13, y14, y15, rfl⟩ := ho
    rw [List.nil_append] at r'
    exact ⟨kv', y13, y14, y15, rfl, r'.perm pm⟩
  · obtain ⟨y13, y14, y15, rfl⟩ := s
    have m : p.1 ∈ Lw a b := (r1.mem p.1).mp (mem_tell hp).1
    show T.all _ ((g2 13 14 (.tup [nw p.1, nI p.2]) _).bind P9j)
    rw [g2_val, bind_ret]
    refine T.all_mono (fun o ho => ?_) (p9j h.c2 (Lw_wd h.ha h.hb (by omega) p.1 m).1 (tell_pos r1 p hp) r n)
    obtain ⟨kv', ρ', rfl, r', y15, rfl⟩ := ho
    exact ⟨kv', _, rfl, r', _, _, _, rfl⟩
/-! the right one -/
theorem P10i_val (hk : kv.length ≤ 100000) {n m : Nat} {u v : Wd'} (hn : n ≤ 1000) : P10i (z c e2 e3 e4 e5 e6 e7 e8 e9 e10 e11 (.ownD (dE encP kv)) (.val (nw u)) (.val (nI n)) e15 e16 e17 e18 e19 (.val (nw v)) (.val (nI m))) = .ret (.nx (z c e2 e3 e4 e5 e6 e7 e8 e9 e10 e11 (.ownD (dE encP (addW kv (u, v) (n * m)))) (.val (nw u)) (.val (nI n)) e15 e16 e17 e18 e19 (.val (nw v)) (.val (nI m)))) := by
  have mv : eBin opMulT (eVar 14) (eVar 21) (z c e2 e3 e4 e5 e6 e7 e8 e9 e10 e11 (.ownD (dE encP kv)) (.val (nw u)) (.val (nI n)) e15 e16 e17 e18 e19 (.val (nw v)) (.val (nI m))) = .ret (nI (n * m)) := by
    simp only [eBin, eVar, List.getElem?_cons_succ, List.getElem?_cons_zero, T.bind, mul_nI (a := n) (b := m) hn]
  have mk : eTup (aCons (eVar 13) (aCons (eVar 20) aNil)) (z c e2 e3 e4 e5 e6 e7 e8 e9 e10 e11 (.ownD (dE encP kv)) (.val (nw u)) (.val (nI n)) e15 e16 e17 e18 e19 (.val (nw v)) (.val (nI m))) = .ret (pairD (u, v)) := tup2_val (u := eVar 13) (v := eVar 20) (p := nw u) (q := nw v) rfl rfl
  have pc := putC_add encP (ρ := (z c e2 e3 e4 e5 e6 e7 e8 e9 e10 e11 (.ownD (dE encP kv)) (.val (nw u)) (.val (nI n)) e15 e16 e17 e18 e19 (.val (nw v)) (.val (nI m)))) (i := 12) (kv := kv) (k := (u, v)) (n := n * m) rfl mk mv hk
  unfold P10i
  rw [pc]
  simp only [List.set_cons_succ, List.set_cons_zero]
/-- two parts that can be laced -/
structure X2 (c : Nat) (u v : Wd') : Prop where
  c2 : c ≤ 2
  u2 : u.length ≤ 2
  v2 : v.length ≤ 2
  hu : ∀ l ∈ u, LtOk c l
  hv : ∀ l ∈ v, LtOk c l
theorem p10j (h : X2 c x.2 y.2) (hn : p.2 ≤ 1000) (hp : 0 < p.2) (r : Rep kv l) (hl : l.length + (cop p.2 ((Lw x.2 y.2).map fun v => (p.1, v))).length ≤ 100000) : T.all (fun o => ∃ kv' ρ', o = .nx ρ' ∧ Rep kv' (l ++ cop p.2 ((Lw x.2 y.2).map fun v => (p.1, v))) ∧ ∃ y20 y21, ρ' = (z c e2 e3 e4 e5 e6 e7 e8 e9 e10 e11 (.ownD (dE encP kv')) (.val (nw p.1)) (.val (nI p.2)) e15 e16 (.val (nw x.2)) e18 (.val (nw y.2)) y20 y21)) (P10j (z c e2 e3 e4 e5 e6 e7 e8 e9 e10 e11 (.ownD (dE encP kv)) (.val (nw p.1)) (.val (nI p.2)) e15 e16 (.val (nw x.2)) e18 (.val (nw y.2)) e20 e21)) := by
  have u2 := h.u2
  have v2 := h.v2
  unfold P10j
  refine T.all_bind.mpr (T.all_bind.mpr (eL_all (T.all_mono (fun d hd => ?_) (Qa_all (c := c) (a := x.2) (b := y.2) rfl rfl rfl h.c2 (lt_wd (by omega) h.hu) (lt_wd (by omega) h.hv) (by omega) (by omega)))))
  obtain ⟨kw, rw_, rfl⟩ := hd
  have pm : ((tellW kw).flatMap fun q => List.replicate (p.2 * q.2) (p.1, q.1)).Perm (cop p.2 ((Lw x.2 y.2).map fun v => (p.1, v))) := by
    have t := cop_times p.2 ((tellW kw).map fun q => ((p.1, q.1), q.2))
    rw [ex_map (fun v : Wd' => (p.1, v)), List.flatMap_map] at t
    exact t.trans (cop_perm ((tell_ex rw_).map _) p.2)
  show T.all _ (forT (fun d ρ => (g2 20 21 d ρ).bind P10i) ((tellW kw).map prD) (z c e2 e3 e4 e5 e6 e7 e8 e9 e10 e11 (.ownD (dE encP kv)) (.val (nw p.1)) (.val (nI p.2)) e15 e16 (.val (nw x.2)) e18 (.val (nw y.2)) e20 e21))
  refine T.all_mono (fun o ho => ?_) (forE (N := 100000) (g := prD) (F := fun q : Wd' × Nat => List.replicate (p.2 * q.2) (p.1, q.1)) (S := fun kv' ρ' => ∃ y20 y21, ρ' = (z c e2 e3 e4 e5 e6 e7 e8 e9 e10 e11 (.ownD (dE encP kv')) (.val (nw p.1)) (.val (nI p.2)) e15 e16 (.val (nw x.2)) e18 (.val (nw y.2)) y20 y21)) (fun q hq l kv ρ r s n => ?_) r ⟨_, _, rfl⟩ (by rw [pm.length_eq]; exact hl))
  · obtain ⟨kv', ρ', rfl, r', s'⟩ := ho
    exact ⟨kv', ρ', rfl, r'.perm ((List.Perm.refl l).append pm), s'⟩
  · obtain ⟨y20, y21, rfl⟩ := s
    have rl := r.len
    show T.all _ ((g2 20 21 (.tup [nw q.1, nI q.2]) _).bind P10i)
    rw [g2_val, bind_ret]
    refine all_eq (P10i_val (by omega) hn) ?_
    exact ⟨addW kv (p.1, q.1) (p.2 * q.2), _, rfl, r.add (p.1, q.1) (Nat.mul_pos hp (tell_pos rw_ q hq)), _, _, rfl⟩
def Fx (x y : Wd' × Wd') : List (Wd' × Wd') := (Lw x.1 y.1).flatMap fun u => (Lw x.2 y.2).map fun v => (u, v)
theorem p10k (h1 : X2 c x.1 y.1) (h : X2 c x.2 y.2) (r : Rep kv l) (hl : l.length + (Fx x y).length ≤ 100000) : T.all (fun o => ∃ kv' ρ', o = .nx ρ' ∧ Rep kv' (l ++ Fx x y) ∧ ∃ y13 y14 y20 y21, ρ' = (z c e2 e3 e4 e5 e6 e7 e8 e9 e10 e11 (.ownD (dE encP kv')) y13 y14 e15 (.val (nw x.1)) (.val (nw x.2)) (.val (nw y.1)) (.val (nw y.2)) y20 y21)) (P10k (z c e2 e3 e4 e5 e6 e7 e8 e9 e10 e11 (.ownD (dE encP kv)) e13 e14 e15 (.val (nw x.1)) (.val (nw x.2)) (.val (nw y.1)) (.val (nw y.2)) e20 e21)) := by
  have u2 := h1.u2
  have v2 := h1.v2
  unfold P10k
  refine T.all_bind.mpr (T.all_bind.mpr (eL_all (T.all_mono (fun d hd => ?_) (Qa_all (c := c) (a := x.1) (b := y.1) rfl rfl rfl h.c2 (lt_wd (by omega) h1.hu) (lt_wd (by omega) h1.hv) (by omega) (by omega)))))
  obtain ⟨kw, rw_, rfl⟩ := hd
  have few := Lw_few x.1 y.1 (by omega) (by omega)
  have pm : ((tellW kw).flatMap fun p => cop p.2 ((Lw x.2 y.2).map fun v => (p.1, v))).Perm (Fx x y) := by
    rw [cop_ex fun u : Wd' => (Lw x.2 y.2).map fun v => (u, v)]
    exact perm_flat (tell_ex rw_)
  show T.all _ (forT (fun d ρ => (g2 13 14 d ρ).bind P10j) ((tellW kw).map prD) (z c e2 e3 e4 e5 e6 e7 e8 e9 e10 e11 (.ownD (dE encP kv)) e13 e14 e15 (.val (nw x.1)) (.val (nw x.2)) (.val (nw y.1)) (.val (nw y.2)) e20 e21))
  refine T.all_mono (fun o ho => ?_) (forE (N := 100000) (g := prD) (F := fun p : Wd' × Nat => cop p.2 ((Lw x.2 y.2).map fun v => (p.1, v))) (S := fun kv' ρ' => ∃ y13 y14 y20 y21, ρ' = (z c e2 e3 e4 e5 e6 e7 e8 e9 e10 e11 (.ownD (dE encP kv')) y13 y14 e15 (.val (nw x.1)) (.val (nw x.2)) (.val (nw y.1)) (.val (nw y.2)) y20 y21)) (fun p hp l kv ρ r s n => ?_) r ⟨_, _, _, _, rfl⟩ (by rw [pm.length_eq]; exact hl))
  · obtain ⟨kv', ρ', rfl, r', s'⟩ := ho
    exact ⟨kv', ρ', rfl, r'.perm ((List.Perm.refl l).append pm), s'⟩
  · obtain ⟨y13, y14, y20, y21, rfl⟩ := s
    have pc : p.2 ≤ 129 := by
      have := ex_le hp
      rw [(tell_ex rw_).length_eq] at this
      omega
    show T.all _ ((g2 13 14 (.tup [nw p.1, nI p.2]) _).bind P10j)
    rw [g2_val, bind_ret]
    refine T.all_mono (fun o ho => ?_) (p10j (x := x) (y := y) (p := p) h (by omega) (tell_pos rw_ p hp) r n)
    obtain ⟨kv', ρ', rfl, r', y20, y21, rfl⟩ := ho
    exact ⟨kv', _, rfl, r', _, _, _, _, rfl⟩
theorem p10l (h : W3 c a b w) (hx : x ∈ cutL a) (r : Rep kv l) (hl : l.length + ((cutL b).flatMap (Fx x)).length ≤ 100000) : T.all (fun o => ∃ kv' ρ', o = .nx ρ' ∧ Rep kv' (l ++ (cutL b).flatMap (Fx x)) ∧ ∃ y13 y14 y18 y19 y20 y21, ρ' = (z c e2 e3 e4 e5 (.val (nw b)) e7 e8 e9 e10 e11 (.ownD (dE encP kv')) y13 y14 e15 (.val (nw x.1)) (.val (nw x.2)) y18 y19 y20 y21)) (P10l (z c e2 e3 e4 e5 (.val (nw b)) e7 e8 e9 e10 e11 (.ownD (dE encP kv)) e13 e14 e15 (.val (nw x.1)) (.val (nw x.2)) e18 e19 e20 e21)) := by
  have a2 := h.a2
  have b2 := h.b2
  obtain ⟨x1, x2, x3, x4⟩ := cut_in hx h.ha
  unfold P10l
  refine T.all_bind.mpr (T.all_bind.mpr (all_eq (Qc_all (c := c) (u := b) rfl rfl h.c2 (lt_wd (by omega) h.hb)) ?_))
  show T.all _ (forT (fun d ρ => (g2 18 19 d ρ).bind P10k) ((cutL b).map pairD) (z c e2 e3 e4 e5 (.val (nw b)) e7 e8 e9 e10 e11 (.ownD (dE encP kv)) e13 e14 e15 (.val (nw x.1)) (.val (nw x.2)) e18 e19 e20 e21))
  refine T.all_mono (fun o ho => ho) (forE (N := 100000) (g := pairD) (F := Fx x) (S := fun kv' ρ' => ∃ y13 y14 y18 y19 y20 y21, ρ' = (z c e2 e3 e4 e5 (.val (nw b)) e7 e8 e9 e10 e11 (.ownD (dE encP kv')) y13 y14 e15 (.val (nw x.1)) (.val (nw x.2)) y18 y19 y20 y21)) (fun y hy l kv ρ r s n => ?_) r ⟨_, _, _, _, _, _, rfl⟩ hl)
  obtain ⟨y13, y14, y18, y19, y20, y21, rfl⟩ := s
  obtain ⟨z1, z2, z3, z4⟩ := cut_in hy h.hb
  show T.all _ ((g2 18 19 (.tup [nw y.1, nw y.2]) _).bind P10k)
  rw [g2_val, bind_ret]
  refine T.all_mono (fun o ho => ?_) (p10k (x := x) (y := y) ⟨h.c2, by omega, by omega, x3, z3⟩ ⟨h.c2, by omega, by omega, x4, z4⟩ r n)
  obtain ⟨kv', ρ', rfl, r', y13, y14, y20, y21, rfl⟩ := ho
  exact ⟨kv', _, rfl, r', _, _, _, _, _, _, rfl⟩
theorem p10 (h : W3 c a b w) : T.all (fun o => ∃ kv y13 y14 y16 y17 y18 y19 y20 y21, o = .nx (z c e2 e3 e4 (.val (nw a)) (.val (nw b)) e7 e8 e9 e10 e11 (.ownD (dE encP kv)) y13 y14 e15 y16 y17 y18 y19 y20 y21) ∧ Rep kv (rightC a b)) (P10 (z c e2 e3 e4 (.val (nw a)) (.val (nw b)) e7 e8 e9 e10 e11 (.ownD []) e13 e14 e15 e16 e17 e18 e19 e20 e21)) := by
  have a2 := h.a2
  have b2 := h.b2
  have ll := left_len h
  have rl : (rightC a b).length ≤ 2000 := by
    rw [← (cuts_ok a2 b2).length_eq]
    exact ll
  unfold P10
  refine T.all_bind.mpr (T.all_bind.mpr (all_eq (Qc_all (c := c) (u := a) rfl rfl h.c2 (lt_wd (by omega) h.ha)) ?_))
  show T.all _ (forT (fun d ρ => (g2 16 17 d ρ).bind P10l) ((cutL a).map pairD) (z c e2 e3 e4 (.val (nw a)) (.val (nw b)) e7 e8 e9 e10 e11 (.ownD (dE encP [])) e13 e14 e15 e16 e17 e18 e19 e20 e21))
  refine T.all_mono (fun o ho => ?_) (forE (N := 100000) (g := pairD) (F := fun x => (cutL b).flatMap (Fx x)) (S := fun kv' ρ' => ∃ y13 y14 y16 y17 y18 y19 y20 y21, ρ' = (z c e2 e3 e4 (.val (nw a)) (.val (nw b)) e7 e8 e9 e10 e11 (.ownD (dE encP kv')) y13 y14 e15 y16 y17 y18 y19 y20 y21)) (l := []) (fun x hx l kv ρ r s n => ?_) Rep.nil ⟨_, _, _, _, _, _, _, _, rfl⟩ (by show 0 + (rightC a b).length ≤ 100000; omega))
  · obtain ⟨kv', ρ', rfl, r', y13, y14, y16, y17, y18, y19, y20, y21, rfl⟩ := ho
    rw [List.nil_append] at r'
    exact ⟨kv', y13, y14, y16, y17, y18, y19, y20, y21, rfl, r'⟩
  · obtain ⟨y13, y14, y16, y17, y18, y19, y20, y21, rfl⟩ := s
    show T.all _ ((g2 16 17 (.tup [nw x.1, nw x.2]) _).bind P10l)
    rw [g2_val, bind_ret]
    refine T.all_mono (fun o ho => ?_) (p10l h hx r n)
    obtain ⟨kv', ρ', rfl, r', y13, y14, y18, y19, y20, y21, rfl⟩ := ho
    exact ⟨kv', _, rfl, r', _, _, _, _, _, _, _, _, rfl⟩
end
end Pd

/-! The law's def, by parts: the last ones; it comes out true. -/
namespace Pd
open PySem L2 PySem.W PySem.Spec PyProof.Rows
/-! data against themselves -/
theorem eq_self {n : Nat} {d : D} {p : PyData} (h : PyOk n d) (l : n ≤ 64) (e : d.py = some p) (al : alike p p = true) : eqD d d = some true := by
  obtain ⟨q, e2, a, b⟩ := h
  rw [e] at e2
  cases e2
  have sp : SeqAt.shaped p = true := by
    unfold SeqAt.shaped
    rw [a, decide_eq_true (by omega)]
    rfl
  unfold eqD
  rw [e]
  dsimp only
  rw [sp, eqv_refl_alike p al]
  rfl
theorem pys_prs : ∀ ps : List (Wd' × Nat), D.pys (ps.map prD) = some (ps.map pP)
  | [] => rfl
  | p :: ps => by
    unfold List.map D.pys
    rw [pys_prs ps, py_pr]
theorem alike_prs : ∀ ps : List (Wd' × Nat), alikeAll (ps.map pP) (ps.map pP) = true
  | [] => by simp [alikeAll]
  | p :: ps => by
    simp only [List.map_cons, alikeAll, alike_P, Bool.true_and]
    exact alike_prs ps
theorem eq_prs (ps : List (Wd' × Nat)) : eqD (.lst (ps.map prD)) (.lst (ps.map prD)) = some true := by
  refine eq_self (n := 4) (p := .list (ps.map pP)) (py_lst fun d hd => ?_) (by decide) ?_ ?_
  · obtain ⟨p, _, rfl⟩ := List.mem_map.mp hd
    exact py_p p
  · unfold D.py
    rw [pys_prs]
  · simp only [alike]
    exact alike_prs ps
theorem eq_nw (w : Wd') : eqD (nw w) (nw w) = some true := eq_self (py_w w) (by decide) (py_nw w) (alike_W w w)
theorem neD_prs (ps : List (Wd' × Nat)) : opNeD (.lst (ps.map prD)) (.lst (ps.map prD)) = .ret (.bl false) := by
  show opNe (.lst (ps.map prD)) (.lst (ps.map prD)) = _
  unfold opNe
  rw [eq_prs]
  rfl
theorem neD_nw (w : Wd') : opNeD (nw w) (nw w) = .ret (.bl false) := by
  have e := eq_nw w
  unfold nw at e ⊢
  show opNe (.tup (w.map nt)) (.tup (w.map nt)) = _
  unfold opNe
  rw [e]
  rfl
theorem eqF_prs (ps : List (Wd' × Nat)) : opEqF (.lst (ps.map prD)) (.lst (ps.map prD)) = .ret (.bl true) := by
  show opEq (.lst (ps.map prD)) (.lst (ps.map prD)) = _
  unfold opEq
  rw [eq_prs]
theorem comp_g2 {α : Type} {me : Rho → T D} {ρ : Rho} {i j : Nat} {f g h : α → D} : ∀ {ps : List α} {acc : List D}, acc.length + ps.length ≤ 100000 → (∀ p ∈ ps, (me ((ρ.set i (.val (g p))).set j (.val (h p)))).all fun x => x = f p) → (compT (g2 i j) yesT me ρ (ps.map fun p => .tup [g p, h p]) acc).all fun es => es = acc ++ ps.map f
  | [], acc, _, _ => by
    show acc = acc ++ []
    rw [List.append_nil]
  | p :: ps, acc, hl, hm => by
    rw [List.length_cons] at hl
    have s : small acc = true := decide_eq_true (by omega)
    have e : compT (g2 i j) yesT me ρ ((p :: ps).map fun p => .tup [g p, h p]) acc = (g2 i j (.tup [g p, h p]) ρ).bind fun ρ2 => (yesT ρ2).bind fun b => cond b ((me ρ2).bind fun y => cond (small acc) (compT (g2 i j) yesT me ρ (ps.map fun p => .tup [g p, h p]) (acc ++ [y])) .fail) (compT (g2 i j) yesT me ρ (ps.map fun p => .tup [g p, h p]) acc) := rfl
    rw [e, g2_val, s]
    show T.all _ ((me ((ρ.set i (.val (g p))).set j (.val (h p)))).bind fun y => compT (g2 i j) yesT me ρ (ps.map fun p => .tup [g p, h p]) (acc ++ [y]))
    refine T.all_bind.mpr (T.all_mono (fun d hd => ?_) (hm p List.mem_cons_self))
    subst hd
    have ih := comp_g2 (me := me) (ρ := ρ) (i := i) (j := j) (f := f) (g := g) (h := h) (ps := ps) (acc := acc ++ [f p]) (by simp; omega) fun q hq => hm q (List.mem_cons_of_mem _ hq)
    rw [List.append_assoc] at ih
    exact ih
theorem tell_len (kv : List (Wd' × Nat)) : (tellW kv).length = kv.length := by
  unfold tellW
  rw [List.length_map, (isort_perm wLe_total _).length_eq, List.length_map]
/-- each word turned -/
def rvK (ps : List (Wd' × Nat)) : List (Wd' × Nat) := ps.map fun p => (p.1.reverse, p.2)
section
variable {c : Nat} {a b w : Wd'} {k1 k2 k3 : List (Wd' × Nat)} {kl kr : List ((Wd' × Wd') × Nat)} {e1 e2 e3 e4 e5 e6 e7 e8 e9 e10 e11 e12 e13 e14 e15 e16 e17 e18 e19 e20 e21 : Ent}
theorem rep_rev (h : W3 c a b w) (r1 : Rep k1 (Lw a b)) : Rep (rvK (tellW k1)) ((Lw a b).map List.reverse) where
  nd := by
    have n : ((tellW k1).map (·.1)).Nodup := ((tell_perm r1.nd).map _).nodup_iff.mpr r1.nd
    have e : (rvK (tellW k1)).map (·.1) = ((tellW k1).map (·.1)).map List.reverse := by
      unfold rvK
      rw [List.map_map, List.map_map]
      rfl
    rw [e]
    exact List.Pairwise.map _ (fun x y hxy hr => hxy (List.reverse_inj.mp hr)) n
  pos := fun p hp => by
    obtain ⟨q, hq, rfl⟩ := List.mem_map.mp hp
    exact tell_pos r1 q hq
  pm := by
    unfold rvK
    rw [ex_map List.reverse]
    exact (tell_ex r1).map _
theorem p11 {L M : List (Wd' × Wd')} (rl : Rep kl L) (rr : Rep kr M) (p : L.Perm M) : T.all (fun o => o = .nx (z c e2 e3 e4 e5 e6 e7 e8 e9 e10 (.val (.dic (dE encP kl))) (.val (.dic (dE encP kr))) e13 e14 e15 e16 e17 e18 e19 e20 e21)) (P11 (z c e2 e3 e4 e5 e6 e7 e8 e9 e10 (.val (.dic (dE encP kl))) (.val (.dic (dE encP kr))) e13 e14 e15 e16 e17 e18 e19 e20 e21)) := by
  unfold P11
  exact if_no (test_all (bin_all (all_eq (a := .dic (dE encP kl)) rfl (all_eq (a := .dic (dE encP kr)) rfl (all_eq (dic_ne encP rl rr p) rfl))))) rfl
theorem p12 (h : W3 c a b w) (r1 : Rep k1 (Lw a b)) : T.all (fun o => o = .nx (z c e2 e3 (.own ((isort pLe (rvK (tellW k1))).map prD)) e5 e6 (.val (.lst ((tellW k1).map prD))) e8 e9 e10 e11 e12 e13 e14 e15 e16 e17 e18 e19 e20 e21)) (P12 (z c e2 e3 e4 e5 e6 (.val (.lst ((tellW k1).map prD))) e8 e9 e10 e11 e12 e13 e14 e15 e16 e17 e18 e19 e20 e21)) := by
  have a2 := h.a2
  have b2 := h.b2
  have few := Lw_few a b (by omega) (by omega)
  have rl := r1.len
  have cp : T.all (fun ds => ds = (rvK (tellW k1)).map prD) (P12c (z c e2 e3 e4 e5 e6 (.val (.lst ((tellW k1).map prD))) e8 e9 e10 e11 e12 e13 e14 e15 e16 e17 e18 e19 e20 e21)) := by
    unfold P12c
    have t := comp_g2 (me := eTup (aCons (eRevT (eVar 13)) (aCons (eVar 14) aNil))) (ρ := (z c e2 e3 e4 e5 e6 (.val (.lst ((tellW k1).map prD))) e8 e9 e10 e11 e12 .un .un e15 e16 e17 e18 e19 e20 e21)) (i := 13) (j := 14) (f := fun p : Wd' × Nat => prD (p.1.reverse, p.2)) (g := fun p => nw p.1) (h := fun p => nI p.2) (ps := tellW k1) (acc := []) (by rw [tell_len]; simp; omega) fun p hp => by
      refine all_eq (tup2_val (u := eRevT (eVar 13)) (v := eVar 14) (p := nw p.1.reverse) (q := nI p.2) ?_ rfl) rfl
      show T.ret (D.tup (p.1.map nt).reverse) = _
      rw [← List.map_reverse]
      rfl
    have e : (rvK (tellW k1)).map prD = [] ++ (tellW k1).map fun p => prD (p.1.reverse, p.2) := by
      unfold rvK
      rw [List.map_map, List.nil_append]
      rfl
    rw [e]
    exact t
  have s := sort_items (kv := rvK (tellW k1)) (by unfold rvK; rw [List.length_map, tell_len]; omega)
  unfold P12
  refine T.all_bind.mpr (T.all_bind.mpr (T.all_bind.mpr (eL_all (T.all_mono (fun ds hd => ?_) cp))))
  subst hd
  show T.all _ (bSorted [.lst ((rvK (tellW k1)).map prD)])
  exact all_eq (show bSorted [.lst ((rvK (tellW k1)).map prD)] = _ from s) rfl
theorem p13 (h : W3 c a b w) : T.all (fun o => o = .nx (z c e2 e3 e4 (.val (nw a)) e6 e7 e8 e9 e10 e11 e12 e13 e14 e15 e16 e17 e18 e19 e20 e21)) (P13 (z c e2 e3 e4 (.val (nw a)) e6 e7 e8 e9 e10 e11 e12 e13 e14 e15 e16 e17 e18 e19 e20 e21)) := by
  have a2 := h.a2
  have c2 := h.c2
  have t := tuF_val (lt_wd (by omega) h.ha) (show c ≤ 3 by omega)
  have r : eRevT (eVar 5) (z c e2 e3 e4 (.val (nw a)) e6 e7 e8 e9 e10 e11 e12 e13 e14 e15 e16 e17 e18 e19 e20 e21) = .ret (nw a.reverse) := by
    show T.ret (D.tup (a.map nt).reverse) = _
    rw [← List.map_reverse]
    rfl
  unfold P13
  exact if_no (test_all (bin_all (call2_all (all_eq (a := .int (c : Int)) rfl (all_eq (a := nw a) rfl (all_eq t (all_eq r (all_eq (neD_nw a.reverse) rfl)))))))) rfl
theorem p14 (h : W3 c a b w) (r1 : Rep k1 (Lw a b)) : T.all (fun o => o = .nx (z c e2 e3 (.val (.lst ((isort pLe (rvK (tellW k1))).map prD))) (.val (nw a)) (.val (nw b)) e7 e8 e9 e10 e11 e12 e13 e14 e15 e16 e17 e18 e19 e20 e21)) (P14 (z c e2 e3 (.val (.lst ((isort pLe (rvK (tellW k1))).map prD))) (.val (nw a)) (.val (nw b)) e7 e8 e9 e10 e11 e12 e13 e14 e15 e16 e17 e18 e19 e20 e21)) := by
  have a2 := h.a2
  have b2 := h.b2
  have c2 := h.c2
  have t := tuF_val (lt_wd (by omega) h.hb) (show c ≤ 3 by omega)
  have wa : isWd c a.reverse = true := lt_wd (by rw [List.length_reverse]; omega) fun l hl => h.ha l (List.mem_reverse.mp hl)
  have wb : isWd c b.reverse = true := lt_wd (by rw [List.length_reverse]; omega) fun l hl => h.hb l (List.mem_reverse.mp hl)
  have r : eRevT (eVar 5) (z c e2 e3 (.val (.lst ((isort pLe (rvK (tellW k1))).map prD))) (.val (nw a)) (.val (nw b)) e7 e8 e9 e10 e11 e12 e13 e14 e15 e16 e17 e18 e19 e20 e21) = .ret (nw a.reverse) := by
    show T.ret (D.tup (a.map nt).reverse) = _
    rw [← List.map_reverse]
    rfl
  have la : T.all (fun ds => ds = (isort pLe (rvK (tellW k1))).map prD) (P14a (z c e2 e3 (.val (.lst ((isort pLe (rvK (tellW k1))).map prD))) (.val (nw a)) (.val (nw b)) e7 e8 e9 e10 e11 e12 e13 e14 e15 e16 e17 e18 e19 e20 e21)) := by
    unfold P14a
    refine lcall3_all (all_eq (a := .int (c : Int)) rfl (all_eq r (callK2_all (all_eq (a := nw b) rfl (all_eq (a := .int (c : Int)) rfl (all_eq t ?_))))))
    refine T.all_mono (fun ds hd => ?_) (lacings_all wa wb (show c ≤ 3 by omega) (by rw [List.length_reverse]; omega) (by rw [List.length_reverse]; omega))
    obtain ⟨kv, rv, rfl⟩ := hd
    rw [tell_due rv (rep_rev h r1) (turn_ok a2 b2)]
  unfold P14
  exact if_no (test_all (ne_all (x := .lst ((isort pLe (rvK (tellW k1))).map prD)) (eL_all (T.all_mono (fun ds hd => by rw [hd]) la)) (var_all rfl) (neD_prs _))) rfl
theorem tell_one (a : Wd') : (tellW [(a, 1)]).map prD = [prD (a, 1)] := by
  have e : tellW [(a, 1)] = [(a, 1)] := by
    show [(a, if a = a then 1 else 0)] = _
    rw [if_pos rfl]
  rw [e]
  rfl
theorem told_one {kv : List (Wd' × Nat)} {a : Wd'} (r : Rep kv [a]) : (tellW kv).map prD = [(a, 1)].map prD := by
  rw [tell_same r (rep_one a) (List.Perm.refl _), tell_one]
  rfl
theorem p15 (h : W3 c a b w) : T.all (fun o => o = .rt (.bl true)) (P15 (z c e2 e3 e4 (.val (nw a)) e6 e7 e8 e9 e10 e11 e12 e13 e14 e15 e16 e17 e18 e19 e20 e21)) := by
  have a2 := h.a2
  have c2 := h.c2
  have wa : isWd c a = true := lt_wd (by omega) h.ha
  have w0 : isWd c [] = true := lt_wd (by decide) fun l hl => (List.not_mem_nil hl).elim
  have n0 : ∀ ρ : Rho, eTup aNil ρ = .ret (nw []) := fun ρ => by
    have s : small [] = true := small_of (by decide)
    simp only [eTup, aNil, T.bind, s, cond]
    rfl
  have s1 : ∀ x : D, small [x] = true := small1
  have l1 : P15l (z c e2 e3 e4 (.val (nw a)) e6 e7 e8 e9 e10 e11 e12 e13 e14 e15 e16 e17 e18 e19 e20 e21) = .ret ([(a, 1)].map prD) := by
    have t := tup2_val (ρ := (z c e2 e3 e4 (.val (nw a)) e6 e7 e8 e9 e10 e11 e12 e13 e14 e15 e16 e17 e18 e19 e20 e21)) (u := eVar 5) (v := eC (.int 1)) (p := nw a) (q := .int 1) rfl rfl
    unfold P15l
    generalize eTup (aCons (eVar 5) (aCons (eC (.int 1)) aNil)) = X at t
    simp only [lLst, aCons, aNil, t, T.bind, s1, cond]
    rfl
  have q1 : T.all (fun ds => ds = [(a, 1)].map prD) (P15a (z c e2 e3 e4 (.val (nw a)) e6 e7 e8 e9 e10 e11 e12 e13 e14 e15 e16 e17 e18 e19 e20 e21)) := by
    unfold P15a
    refine lcall3_all (all_eq (a := .int (c : Int)) rfl (all_eq (a := nw a) rfl (all_eq (n0 _) ?_)))
    refine T.all_mono (fun ds hd => ?_) (lacings_all (a := a) (b := []) wa w0 (show c ≤ 3 by omega) (by omega) (by decide))
    obtain ⟨kv, rv, rfl⟩ := hd
    rw [Lw_nil] at rv
    exact told_one rv
  have q2 : T.all (fun ds => ds = [(a, 1)].map prD) (P15b (z c e2 e3 e4 (.val (nw a)) e6 e7 e8 e9 e10 e11 e12 e13 e14 e15 e16 e17 e18 e19 e20 e21)) := by
    unfold P15b
    refine lcallK3_all (all_eq (a := nw a) rfl (all_eq (n0 _) (all_eq (a := .int (c : Int)) rfl ?_)))
    refine T.all_mono (fun ds hd => ?_) (lacings_all (a := []) (b := a) w0 wa (show c ≤ 3 by omega) (by decide) (by omega))
    obtain ⟨kv, rv, rfl⟩ := hd
    rw [nil_Lw] at rv
    exact told_one rv
  have v1 : T.all (fun d => d = .bl true) (eBin opEqF (eL P15a) (eL P15l) (z c e2 e3 e4 (.val (nw a)) e6 e7 e8 e9 e10 e11 e12 e13 e14 e15 e16 e17 e18 e19 e20 e21)) := ne_all (x := .lst ([(a, 1)].map prD)) (eL_all (T.all_mono (fun ds hd => by rw [hd]) q1)) (eL_all (all_eq l1 rfl)) (eqF_prs _)
  have v2 : T.all (fun d => d = .bl true) (eBin opEqF (eL P15b) (eL P15l) (z c e2 e3 e4 (.val (nw a)) e6 e7 e8 e9 e10 e11 e12 e13 e14 e15 e16 e17 e18 e19 e20 e21)) := ne_all (x := .lst ([(a, 1)].map prD)) (eL_all (T.all_mono (fun ds hd => by rw [hd]) q2)) (eL_all (all_eq l1 rfl)) (eqF_prs _)
  unfold P15
  refine T.all_bind.mpr (T.all_bind.mpr (T.all_mono (fun d hd => ?_) v1))
  subst hd
  show T.all _ (eBin opEqF (eL P15b) (eL P15l) (z c e2 e3 e4 (.val (nw a)) e6 e7 e8 e9 e10 e11 e12 e13 e14 e15 e16 e17 e18 e19 e20 e21))
  refine T.all_mono (fun d hd => ?_) v2
  subst hd
  rfl
end
theorem right_all : T.all (fun d => d = .bl true) (f__law_right [.pot]) := by
  unfold f__law_right runB
  rw [right_eq]
  refine T.all_bind.mpr ?_
  refine seq_nx (T.all_mono (fun o ho => ?_) p1)
  obtain ⟨c, rfl, hc⟩ := ho
  refine ⟨_, rfl, seq_nx (T.all_mono (fun o ho => ?_) (p2 hc))⟩
  obtain ⟨a, b, rfl, a2, b2, ha, hb⟩ := ho
  refine ⟨_, rfl, seq_nx (T.all_mono (fun o ho => ?_) (p3 hc a2 b2))⟩
  obtain ⟨w, rfl, w2, s5, hw⟩ := ho
  have h : W3 c a b w := ⟨hc, a2, b2, w2, s5, ha, hb, hw⟩
  refine ⟨_, rfl, seq_nx (T.all_mono (fun o ho => ?_) (p4 h))⟩
  obtain ⟨k1, k2, rfl, r1, r2⟩ := ho
  refine ⟨_, rfl, seq_nx (T.all_mono (fun o ho => ?_) (p5 h r1 r2))⟩
  obtain ⟨n, f, rfl, rn, rf⟩ := ho
  refine ⟨_, rfl, seq_nx (T.all_mono (fun o ho => ?_) (p6 h))⟩
  obtain ⟨k3, rfl, r3⟩ := ho
  refine ⟨_, rfl, seq_nx (T.all_mono (fun o ho => ?_) (p7 rn rf r3))⟩
  subst ho
  refine ⟨_, rfl, seq_nx ⟨_, rfl, ?_⟩⟩
  refine seq_nx (T.all_mono (fun o ho => ?_) (p9 h r1))
  obtain ⟨kl, y13, y14, y15, rfl, rl⟩ := ho
  refine ⟨_, rfl, seq_nx (T.all_mono (fun o ho => ?_) (p10 h))⟩
  obtain ⟨kr, y13, y14, y16, y17, y18, y19, y20, y21, rfl, rr⟩ := ho
  refine ⟨_, rfl, ?_⟩
  refine seq_nx (T.all_mono (fun o ho => ?_) (p11 rl rr (cuts_ok a2 b2)))
  subst ho
  refine ⟨_, rfl, seq_nx (T.all_mono (fun o ho => ?_) (p12 h r1))⟩
  subst ho
  refine ⟨_, rfl, seq_nx (T.all_mono (fun o ho => ?_) (p13 h))⟩
  subst ho
  refine ⟨_, rfl, ?_⟩
  refine seq_nx (T.all_mono (fun o ho => ?_) (p14 h r1))
  subst ho
  refine ⟨_, rfl, T.all_mono (fun o ho => ?_) (p15 h)⟩
  subst ho
  rfl
end Pd

/-! What the top has left; the last theorem. -/
namespace Pd
open PySem L2 PySem.Spec PyProof.Rows
def spL (K : PySem.W.Frag) : Sp := fun vs H Q _ => ∃ (a : Addr) (ns : List Int), vs = [.ref a] ∧ SqL K H a (ns.map V.int) ∧ ∀ H', Q (.bl true) H'
abbrev s_law : Stmt := topR 42
theorem sc_law : FnScope ["_law_script"] ["_law_script"] (defScope s_law) := ⟨rfl, rfl, rfl, by decide +kernel, rfl, by decide +kernel, by decide +kernel⟩
section
variable {P : Program} {w : World} {K : PySem.W.Frag} {mg : Str → Option Value} {base : Heap} {a_f : Addr} {d_f : FuncData}
theorem g_law {a_pot a_right a_law : Addr} {d_pot d_right d_law : FuncData} (F : Fun K "law" "law" s_law a_law d_law) (mp : mg "_law_pot" = some (.ref a_pot)) (kp : PySem.W.keepIn K (.ref a_pot) = true) (mr : mg "_law_right" = some (.ref a_right)) (kr : PySem.W.keepIn K (.ref a_right) = true)
    (GP : FnOk P w K mg base CX0 1 a_pot d_pot ["_law_script", "_law_k"] (spPot K)) (BP : Binds K d_pot ["_law_script", "_law_k"] []) (GR : FnOk P w K mg base CX0 10 a_right d_right ["_law_pot_here"] (spD K P w 1 f__law_right)) (BR : Binds K d_right ["_law_pot_here"] []) :
    FnG P w K mg base CX0 11 a_law d_law ["_law_script"] (spL K) := by
  refine okG (k := 10) F sc_law (fun vs H Q E h => ?_) (fun cdv A outer s H vs Q E hr hgd h => ⟨_, pss_one (ps_ret (pe_call GR (hr.mono (by decide)) rfl mr kr BR .nil pass0 (pa_cons (pe_call GP (hr.mono (by decide)) rfl mp kp BP .nil pass0 (pa_cons (pv 0) (pa_cons pe_int pa_nil))) pa_nil))), ?_⟩)
  · obtain ⟨a, ns, rfl, _⟩ := h
    rfl
  · obtain ⟨a, ns, rfl, hs, q⟩ := h
    refine ⟨_, rfl, a, ns, 0, rfl, by decide, hs, fun p x y hp x0 y0 y1 => ?_⟩
    refine ⟨p, fun _ => false, [.pot], ⟨⟨x, y, upd_same, x0, y0, y1⟩, rfl, fun a h => nomatch h⟩, .cons .pot .nil, rfl, T.all_mono (fun d hd v H2 e r => ?_) right_all⟩
    subst hd
    rw [r.bool]
    exact q H2
end

theorem all_mk {l : PySem.W.OpenLaw} {w : World} {K : PySem.W.Frag} {h : Heap} {mg : Str → Option Value} {fa : Addr} (X : K.In h) (G : h.Ns mainGlobals mg) (hfa : mg "law" = some (.ref fa))
    {f_is_integer : Addr} {od_is_integer an_is_integer : Option Addr} {sl_is_integer : Array (Option Value)} {oc_is_integer kV_is_integer dc_is_integer pm_is_integer cd_is_integer ct_is_integer : Value}
    {f_is_count : Addr} {od_is_count an_is_count : Option Addr} {sl_is_count : Array (Option Value)} {oc_is_count kV_is_count dc_is_count pm_is_count cd_is_count ct_is_count : Value}
    {f_is_count_to : Addr} {od_is_count_to an_is_count_to : Option Addr} {sl_is_count_to : Array (Option Value)} {oc_is_count_to kV_is_count_to dc_is_count_to pm_is_count_to cd_is_count_to ct_is_count_to : Value}
    {f_need_columns : Addr} {od_need_columns an_need_columns : Option Addr} {sl_need_columns : Array (Option Value)} {oc_need_columns kV_need_columns dc_need_columns pm_need_columns cd_need_columns ct_need_columns : Value}
    {f_is_letter_to : Addr} {od_is_letter_to an_is_letter_to : Option Addr} {sl_is_letter_to : Array (Option Value)} {oc_is_letter_to kV_is_letter_to dc_is_letter_to pm_is_letter_to cd_is_letter_to ct_is_letter_to : Value}
    {f_is_word_to : Addr} {od_is_word_to an_is_word_to : Option Addr} {sl_is_word_to : Array (Option Value)} {oc_is_word_to kV_is_word_to dc_is_word_to pm_is_word_to cd_is_word_to ct_is_word_to : Value}
    {f_is_word : Addr} {od_is_word an_is_word : Option Addr} {sl_is_word : Array (Option Value)} {oc_is_word kV_is_word dc_is_word pm_is_word cd_is_word ct_is_word : Value}
    {f_need_word : Addr} {od_need_word an_need_word : Option Addr} {sl_need_word : Array (Option Value)} {oc_need_word kV_need_word dc_need_word pm_need_word cd_need_word ct_need_word : Value}
    {f_both_letters : Addr} {od_both_letters an_both_letters : Option Addr} {sl_both_letters : Array (Option Value)} {oc_both_letters kV_both_letters dc_both_letters pm_both_letters cd_both_letters ct_both_letters : Value}
    {f_cuts : Addr} {od_cuts an_cuts : Option Addr} {sl_cuts : Array (Option Value)} {oc_cuts kV_cuts dc_cuts pm_cuts cd_cuts ct_cuts : Value}
    {f_turned_word : Addr} {od_turned_word an_turned_word : Option Addr} {sl_turned_word : Array (Option Value)} {oc_turned_word kV_turned_word dc_turned_word pm_turned_word cd_turned_word ct_turned_word : Value}
    {f_need_many : Addr} {od_need_many an_need_many : Option Addr} {sl_need_many : Array (Option Value)} {oc_need_many kV_need_many dc_need_many pm_need_many cd_need_many ct_need_many : Value}
    {f_how_many : Addr} {od_how_many an_how_many : Option Addr} {sl_how_many : Array (Option Value)} {oc_how_many kV_how_many dc_how_many pm_how_many cd_how_many ct_how_many : Value}
    {f_with_letter : Addr} {od_with_letter an_with_letter : Option Addr} {sl_with_letter : Array (Option Value)} {oc_with_letter kV_with_letter dc_with_letter pm_with_letter cd_with_letter ct_with_letter : Value}
    {f_next_line : Addr} {od_next_line an_next_line : Option Addr} {sl_next_line : Array (Option Value)} {oc_next_line kV_next_line dc_next_line pm_next_line cd_next_line ct_next_line : Value}
    {f_laced : Addr} {od_laced an_laced : Option Addr} {sl_laced : Array (Option Value)} {oc_laced kV_laced dc_laced pm_laced cd_laced ct_laced : Value}
    {f_lacings : Addr} {od_lacings an_lacings : Option Addr} {sl_lacings : Array (Option Value)} {oc_lacings kV_lacings dc_lacings pm_lacings cd_lacings ct_lacings : Value}
    {f_Lletter : Addr} {od_Lletter an_Lletter : Option Addr} {sl_Lletter : Array (Option Value)} {oc_Lletter kV_Lletter dc_Lletter pm_Lletter cd_Lletter ct_Lletter : Value}
    {f_Lword : Addr} {od_Lword an_Lword : Option Addr} {sl_Lword : Array (Option Value)} {oc_Lword kV_Lword dc_Lword pm_Lword cd_Lword ct_Lword : Value}
    {f_Lchoices : Addr} {od_Lchoices an_Lchoices : Option Addr} {sl_Lchoices : Array (Option Value)} {oc_Lchoices kV_Lchoices dc_Lchoices pm_Lchoices cd_Lchoices ct_Lchoices : Value}
    {f_Lat : Addr} {od_Lat an_Lat : Option Addr} {sl_Lat : Array (Option Value)} {oc_Lat kV_Lat dc_Lat pm_Lat cd_Lat ct_Lat : Value}
    {f_Llaced : Addr} {od_Llaced an_Llaced : Option Addr} {sl_Llaced : Array (Option Value)} {oc_Llaced kV_Llaced dc_Llaced pm_Llaced cd_Llaced ct_Llaced : Value}
    {f_Lfurther : Addr} {od_Lfurther an_Lfurther : Option Addr} {sl_Lfurther : Array (Option Value)} {oc_Lfurther kV_Lfurther dc_Lfurther pm_Lfurther cd_Lfurther ct_Lfurther : Value}
    {f_Lright : Addr} {od_Lright an_Lright : Option Addr} {sl_Lright : Array (Option Value)} {oc_Lright kV_Lright dc_Lright pm_Lright cd_Lright ct_Lright : Value}
    {f_Ldraw : Addr} {od_Ldraw an_Ldraw : Option Addr} {sl_Ldraw : Array (Option Value)} {oc_Ldraw kV_Ldraw dc_Ldraw pm_Ldraw cd_Ldraw ct_Ldraw : Value}
    {f_Lpot : Addr} {od_Lpot an_Lpot : Option Addr} {sl_Lpot : Array (Option Value)} {oc_Lpot kV_Lpot dc_Lpot pm_Lpot cd_Lpot ct_Lpot : Value}
    {f_Lput : Addr} {od_Lput an_Lput : Option Addr} {sl_Lput : Array (Option Value)} {oc_Lput kV_Lput dc_Lput pm_Lput cd_Lput ct_Lput : Value}
    {f_law : Addr} {od_law an_law : Option Addr} {sl_law : Array (Option Value)} {oc_law kV_law dc_law pm_law cd_law ct_law : Value}
    {t_MOST_COLUMNS : Tok}
    {t_MOST_LACINGS : Tok}
    {t_MOST_LETTERS : Tok}
    {t_MOST_POWER : Tok}
    (a_is_integer : PySem.W.nsIn K mainGlobals "is_integer" = some (some (.ref f_is_integer)))
    (l_is_integer : K.lookup f_is_integer = some ⟨oc_is_integer, od_is_integer, .func (PySem.W.fnOf "is_integer" "is_integer" (defArgs s_is_integer) (defBody s_is_integer) (defScope s_is_integer) .none kV_is_integer dc_is_integer pm_is_integer an_is_integer cd_is_integer ct_is_integer), sl_is_integer⟩)
    (c_is_integer : PySem.W.codeIn K cd_is_integer "is_integer" = true)
    (k_is_integer : PySem.W.keepIn K (.ref f_is_integer) = true)
    (a_is_count : PySem.W.nsIn K mainGlobals "is_count" = some (some (.ref f_is_count)))
    (l_is_count : K.lookup f_is_count = some ⟨oc_is_count, od_is_count, .func (PySem.W.fnOf "is_count" "is_count" (defArgs s_is_count) (defBody s_is_count) (defScope s_is_count) .none kV_is_count dc_is_count pm_is_count an_is_count cd_is_count ct_is_count), sl_is_count⟩)
    (c_is_count : PySem.W.codeIn K cd_is_count "is_count" = true)
    (k_is_count : PySem.W.keepIn K (.ref f_is_count) = true)
    (a_is_count_to : PySem.W.nsIn K mainGlobals "is_count_to" = some (some (.ref f_is_count_to)))
    (l_is_count_to : K.lookup f_is_count_to = some ⟨oc_is_count_to, od_is_count_to, .func (PySem.W.fnOf "is_count_to" "is_count_to" (defArgs s_is_count_to) (defBody s_is_count_to) (defScope s_is_count_to) .none kV_is_count_to dc_is_count_to pm_is_count_to an_is_count_to cd_is_count_to ct_is_count_to), sl_is_count_to⟩)
    (c_is_count_to : PySem.W.codeIn K cd_is_count_to "is_count_to" = true)
    (k_is_count_to : PySem.W.keepIn K (.ref f_is_count_to) = true)
    (a_need_columns : PySem.W.nsIn K mainGlobals "need_columns" = some (some (.ref f_need_columns)))
    (l_need_columns : K.lookup f_need_columns = some ⟨oc_need_columns, od_need_columns, .func (PySem.W.fnOf "need_columns" "need_columns" (defArgs s_need_columns) (defBody s_need_columns) (defScope s_need_columns) .none kV_need_columns dc_need_columns pm_need_columns an_need_columns cd_need_columns ct_need_columns), sl_need_columns⟩)
    (c_need_columns : PySem.W.codeIn K cd_need_columns "need_columns" = true)
    (k_need_columns : PySem.W.keepIn K (.ref f_need_columns) = true)
    (a_is_letter_to : PySem.W.nsIn K mainGlobals "is_letter_to" = some (some (.ref f_is_letter_to)))
    (l_is_letter_to : K.lookup f_is_letter_to = some ⟨oc_is_letter_to, od_is_letter_to, .func (PySem.W.fnOf "is_letter_to" "is_letter_to" (defArgs s_is_letter_to) (defBody s_is_letter_to) (defScope s_is_letter_to) .none kV_is_letter_to dc_is_letter_to pm_is_letter_to an_is_letter_to cd_is_letter_to ct_is_letter_to), sl_is_letter_to⟩)
    (c_is_letter_to : PySem.W.codeIn K cd_is_letter_to "is_letter_to" = true)
    (k_is_letter_to : PySem.W.keepIn K (.ref f_is_letter_to) = true)
    (a_is_word_to : PySem.W.nsIn K mainGlobals "is_word_to" = some (some (.ref f_is_word_to)))
    (l_is_word_to : K.lookup f_is_word_to = some ⟨oc_is_word_to, od_is_word_to, .func (PySem.W.fnOf "is_word_to" "is_word_to" (defArgs s_is_word_to) (defBody s_is_word_to) (defScope s_is_word_to) .none kV_is_word_to dc_is_word_to pm_is_word_to an_is_word_to cd_is_word_to ct_is_word_to), sl_is_word_to⟩)
    (c_is_word_to : PySem.W.codeIn K cd_is_word_to "is_word_to" = true)
    (k_is_word_to : PySem.W.keepIn K (.ref f_is_word_to) = true)
    (a_is_word : PySem.W.nsIn K mainGlobals "is_word" = some (some (.ref f_is_word)))
    (l_is_word : K.lookup f_is_word = some ⟨oc_is_word, od_is_word, .func (PySem.W.fnOf "is_word" "is_word" (defArgs s_is_word) (defBody s_is_word) (defScope s_is_word) .none kV_is_word dc_is_word pm_is_word an_is_word cd_is_word ct_is_word), sl_is_word⟩)
    (c_is_word : PySem.W.codeIn K cd_is_word "is_word" = true)
    (k_is_word : PySem.W.keepIn K (.ref f_is_word) = true)
    (a_need_word : PySem.W.nsIn K mainGlobals "need_word" = some (some (.ref f_need_word)))
    (l_need_word : K.lookup f_need_word = some ⟨oc_need_word, od_need_word, .func (PySem.W.fnOf "need_word" "need_word" (defArgs s_need_word) (defBody s_need_word) (defScope s_need_word) .none kV_need_word dc_need_word pm_need_word an_need_word cd_need_word ct_need_word), sl_need_word⟩)
    (c_need_word : PySem.W.codeIn K cd_need_word "need_word" = true)
    (k_need_word : PySem.W.keepIn K (.ref f_need_word) = true)
    (a_both_letters : PySem.W.nsIn K mainGlobals "both_letters" = some (some (.ref f_both_letters)))
    (l_both_letters : K.lookup f_both_letters = some ⟨oc_both_letters, od_both_letters, .func (PySem.W.fnOf "both_letters" "both_letters" (defArgs s_both_letters) (defBody s_both_letters) (defScope s_both_letters) .none kV_both_letters dc_both_letters pm_both_letters an_both_letters cd_both_letters ct_both_letters), sl_both_letters⟩)
    (c_both_letters : PySem.W.codeIn K cd_both_letters "both_letters" = true)
    (k_both_letters : PySem.W.keepIn K (.ref f_both_letters) = true)
    (a_cuts : PySem.W.nsIn K mainGlobals "cuts" = some (some (.ref f_cuts)))
    (l_cuts : K.lookup f_cuts = some ⟨oc_cuts, od_cuts, .func (PySem.W.fnOf "cuts" "cuts" (defArgs s_cuts) (defBody s_cuts) (defScope s_cuts) .none kV_cuts dc_cuts pm_cuts an_cuts cd_cuts ct_cuts), sl_cuts⟩)
    (c_cuts : PySem.W.codeIn K cd_cuts "cuts" = true)
    (k_cuts : PySem.W.keepIn K (.ref f_cuts) = true)
    (a_turned_word : PySem.W.nsIn K mainGlobals "turned_word" = some (some (.ref f_turned_word)))
    (l_turned_word : K.lookup f_turned_word = some ⟨oc_turned_word, od_turned_word, .func (PySem.W.fnOf "turned_word" "turned_word" (defArgs s_turned_word) (defBody s_turned_word) (defScope s_turned_word) .none kV_turned_word dc_turned_word pm_turned_word an_turned_word cd_turned_word ct_turned_word), sl_turned_word⟩)
    (c_turned_word : PySem.W.codeIn K cd_turned_word "turned_word" = true)
    (k_turned_word : PySem.W.keepIn K (.ref f_turned_word) = true)
    (a_need_many : PySem.W.nsIn K mainGlobals "_need_many" = some (some (.ref f_need_many)))
    (l_need_many : K.lookup f_need_many = some ⟨oc_need_many, od_need_many, .func (PySem.W.fnOf "_need_many" "_need_many" (defArgs s__need_many) (defBody s__need_many) (defScope s__need_many) .none kV_need_many dc_need_many pm_need_many an_need_many cd_need_many ct_need_many), sl_need_many⟩)
    (c_need_many : PySem.W.codeIn K cd_need_many "_need_many" = true)
    (k_need_many : PySem.W.keepIn K (.ref f_need_many) = true)
    (a_how_many : PySem.W.nsIn K mainGlobals "how_many" = some (some (.ref f_how_many)))
    (l_how_many : K.lookup f_how_many = some ⟨oc_how_many, od_how_many, .func (PySem.W.fnOf "how_many" "how_many" (defArgs s_how_many) (defBody s_how_many) (defScope s_how_many) .none kV_how_many dc_how_many pm_how_many an_how_many cd_how_many ct_how_many), sl_how_many⟩)
    (c_how_many : PySem.W.codeIn K cd_how_many "how_many" = true)
    (k_how_many : PySem.W.keepIn K (.ref f_how_many) = true)
    (a_with_letter : PySem.W.nsIn K mainGlobals "_with_letter" = some (some (.ref f_with_letter)))
    (l_with_letter : K.lookup f_with_letter = some ⟨oc_with_letter, od_with_letter, .func (PySem.W.fnOf "_with_letter" "_with_letter" (defArgs s__with_letter) (defBody s__with_letter) (defScope s__with_letter) .none kV_with_letter dc_with_letter pm_with_letter an_with_letter cd_with_letter ct_with_letter), sl_with_letter⟩)
    (c_with_letter : PySem.W.codeIn K cd_with_letter "_with_letter" = true)
    (k_with_letter : PySem.W.keepIn K (.ref f_with_letter) = true)
    (a_next_line : PySem.W.nsIn K mainGlobals "_next_line" = some (some (.ref f_next_line)))
    (l_next_line : K.lookup f_next_line = some ⟨oc_next_line, od_next_line, .func (PySem.W.fnOf "_next_line" "_next_line" (defArgs s__next_line) (defBody s__next_line) (defScope s__next_line) .none kV_next_line dc_next_line pm_next_line an_next_line cd_next_line ct_next_line), sl_next_line⟩)
    (c_next_line : PySem.W.codeIn K cd_next_line "_next_line" = true)
    (k_next_line : PySem.W.keepIn K (.ref f_next_line) = true)
    (a_laced : PySem.W.nsIn K mainGlobals "laced" = some (some (.ref f_laced)))
    (l_laced : K.lookup f_laced = some ⟨oc_laced, od_laced, .func (PySem.W.fnOf "laced" "laced" (defArgs s_laced) (defBody s_laced) (defScope s_laced) .none kV_laced dc_laced pm_laced an_laced cd_laced ct_laced), sl_laced⟩)
    (c_laced : PySem.W.codeIn K cd_laced "laced" = true)
    (k_laced : PySem.W.keepIn K (.ref f_laced) = true)
    (a_lacings : PySem.W.nsIn K mainGlobals "lacings" = some (some (.ref f_lacings)))
    (l_lacings : K.lookup f_lacings = some ⟨oc_lacings, od_lacings, .func (PySem.W.fnOf "lacings" "lacings" (defArgs s_lacings) (defBody s_lacings) (defScope s_lacings) .none kV_lacings dc_lacings pm_lacings an_lacings cd_lacings ct_lacings), sl_lacings⟩)
    (c_lacings : PySem.W.codeIn K cd_lacings "lacings" = true)
    (k_lacings : PySem.W.keepIn K (.ref f_lacings) = true)
    (a_Lletter : PySem.W.nsIn K mainGlobals "_law_letter" = some (some (.ref f_Lletter)))
    (l_Lletter : K.lookup f_Lletter = some ⟨oc_Lletter, od_Lletter, .func (PySem.W.fnOf "_law_letter" "_law_letter" (defArgs s__law_letter) (defBody s__law_letter) (defScope s__law_letter) .none kV_Lletter dc_Lletter pm_Lletter an_Lletter cd_Lletter ct_Lletter), sl_Lletter⟩)
    (c_Lletter : PySem.W.codeIn K cd_Lletter "_law_letter" = true)
    (k_Lletter : PySem.W.keepIn K (.ref f_Lletter) = true)
    (a_Lword : PySem.W.nsIn K mainGlobals "_law_word" = some (some (.ref f_Lword)))
    (l_Lword : K.lookup f_Lword = some ⟨oc_Lword, od_Lword, .func (PySem.W.fnOf "_law_word" "_law_word" (defArgs s__law_word) (defBody s__law_word) (defScope s__law_word) .none kV_Lword dc_Lword pm_Lword an_Lword cd_Lword ct_Lword), sl_Lword⟩)
    (c_Lword : PySem.W.codeIn K cd_Lword "_law_word" = true)
    (k_Lword : PySem.W.keepIn K (.ref f_Lword) = true)
    (a_Lchoices : PySem.W.nsIn K mainGlobals "_law_choices" = some (some (.ref f_Lchoices)))
    (l_Lchoices : K.lookup f_Lchoices = some ⟨oc_Lchoices, od_Lchoices, .func (PySem.W.fnOf "_law_choices" "_law_choices" (defArgs s__law_choices) (defBody s__law_choices) (defScope s__law_choices) .none kV_Lchoices dc_Lchoices pm_Lchoices an_Lchoices cd_Lchoices ct_Lchoices), sl_Lchoices⟩)
    (c_Lchoices : PySem.W.codeIn K cd_Lchoices "_law_choices" = true)
    (k_Lchoices : PySem.W.keepIn K (.ref f_Lchoices) = true)
    (a_Lat : PySem.W.nsIn K mainGlobals "_law_at" = some (some (.ref f_Lat)))
    (l_Lat : K.lookup f_Lat = some ⟨oc_Lat, od_Lat, .func (PySem.W.fnOf "_law_at" "_law_at" (defArgs s__law_at) (defBody s__law_at) (defScope s__law_at) .none kV_Lat dc_Lat pm_Lat an_Lat cd_Lat ct_Lat), sl_Lat⟩)
    (c_Lat : PySem.W.codeIn K cd_Lat "_law_at" = true)
    (k_Lat : PySem.W.keepIn K (.ref f_Lat) = true)
    (a_Llaced : PySem.W.nsIn K mainGlobals "_law_laced" = some (some (.ref f_Llaced)))
    (l_Llaced : K.lookup f_Llaced = some ⟨oc_Llaced, od_Llaced, .func (PySem.W.fnOf "_law_laced" "_law_laced" (defArgs s__law_laced) (defBody s__law_laced) (defScope s__law_laced) .none kV_Llaced dc_Llaced pm_Llaced an_Llaced cd_Llaced ct_Llaced), sl_Llaced⟩)
    (c_Llaced : PySem.W.codeIn K cd_Llaced "_law_laced" = true)
    (k_Llaced : PySem.W.keepIn K (.ref f_Llaced) = true)
    (a_Lfurther : PySem.W.nsIn K mainGlobals "_law_further" = some (some (.ref f_Lfurther)))
    (l_Lfurther : K.lookup f_Lfurther = some ⟨oc_Lfurther, od_Lfurther, .func (PySem.W.fnOf "_law_further" "_law_further" (defArgs s__law_further) (defBody s__law_further) (defScope s__law_further) .none kV_Lfurther dc_Lfurther pm_Lfurther an_Lfurther cd_Lfurther ct_Lfurther), sl_Lfurther⟩)
    (c_Lfurther : PySem.W.codeIn K cd_Lfurther "_law_further" = true)
    (k_Lfurther : PySem.W.keepIn K (.ref f_Lfurther) = true)
    (a_Lright : PySem.W.nsIn K mainGlobals "_law_right" = some (some (.ref f_Lright)))
    (l_Lright : K.lookup f_Lright = some ⟨oc_Lright, od_Lright, .func (PySem.W.fnOf "_law_right" "_law_right" (defArgs s__law_right) (defBody s__law_right) (defScope s__law_right) .none kV_Lright dc_Lright pm_Lright an_Lright cd_Lright ct_Lright), sl_Lright⟩)
    (c_Lright : PySem.W.codeIn K cd_Lright "_law_right" = true)
    (k_Lright : PySem.W.keepIn K (.ref f_Lright) = true)
    (a_Ldraw : PySem.W.nsIn K mainGlobals "_law_draw" = some (some (.ref f_Ldraw)))
    (l_Ldraw : K.lookup f_Ldraw = some ⟨oc_Ldraw, od_Ldraw, .func (PySem.W.fnOf "_law_draw" "_law_draw" (defArgs s_draw) (defBody s_draw) (defScope s_draw) .none kV_Ldraw dc_Ldraw pm_Ldraw an_Ldraw cd_Ldraw ct_Ldraw), sl_Ldraw⟩)
    (c_Ldraw : PySem.W.codeIn K cd_Ldraw "_law_draw" = true)
    (k_Ldraw : PySem.W.keepIn K (.ref f_Ldraw) = true)
    (a_Lpot : PySem.W.nsIn K mainGlobals "_law_pot" = some (some (.ref f_Lpot)))
    (l_Lpot : K.lookup f_Lpot = some ⟨oc_Lpot, od_Lpot, .func (PySem.W.fnOf "_law_pot" "_law_pot" (defArgs s_pot) (defBody s_pot) (defScope s_pot) .none kV_Lpot dc_Lpot pm_Lpot an_Lpot cd_Lpot ct_Lpot), sl_Lpot⟩)
    (c_Lpot : PySem.W.codeIn K cd_Lpot "_law_pot" = true)
    (k_Lpot : PySem.W.keepIn K (.ref f_Lpot) = true)
    (a_Lput : PySem.W.nsIn K mainGlobals "_law_put" = some (some (.ref f_Lput)))
    (l_Lput : K.lookup f_Lput = some ⟨oc_Lput, od_Lput, .func (PySem.W.fnOf "_law_put" "_law_put" (defArgs s__law_put) (defBody s__law_put) (defScope s__law_put) .none kV_Lput dc_Lput pm_Lput an_Lput cd_Lput ct_Lput), sl_Lput⟩)
    (c_Lput : PySem.W.codeIn K cd_Lput "_law_put" = true)
    (k_Lput : PySem.W.keepIn K (.ref f_Lput) = true)
    (a_law : PySem.W.nsIn K mainGlobals "law" = some (some (.ref f_law)))
    (l_law : K.lookup f_law = some ⟨oc_law, od_law, .func (PySem.W.fnOf "law" "law" (defArgs s_law) (defBody s_law) (defScope s_law) .none kV_law dc_law pm_law an_law cd_law ct_law), sl_law⟩)
    (c_law : PySem.W.codeIn K cd_law "law" = true)
    (k_law : PySem.W.keepIn K (.ref f_law) = true)
    (z_abs : PySem.W.nsIn K mainGlobals "abs" = some none)
    (z_all : PySem.W.nsIn K mainGlobals "all" = some none)
    (z_bool : PySem.W.nsIn K mainGlobals "bool" = some none)
    (z_divmod : PySem.W.nsIn K mainGlobals "divmod" = some none)
    (z_enumerate : PySem.W.nsIn K mainGlobals "enumerate" = some none)
    (z_int : PySem.W.nsIn K mainGlobals "int" = some none)
    (z_isinstance : PySem.W.nsIn K mainGlobals "isinstance" = some none)
    (z_len : PySem.W.nsIn K mainGlobals "len" = some none)
    (z_list : PySem.W.nsIn K mainGlobals "list" = some none)
    (z_max : PySem.W.nsIn K mainGlobals "max" = some none)
    (z_range : PySem.W.nsIn K mainGlobals "range" = some none)
    (z_sorted : PySem.W.nsIn K mainGlobals "sorted" = some none)
    (z_tuple : PySem.W.nsIn K mainGlobals "tuple" = some none)
    (z_zip : PySem.W.nsIn K mainGlobals "zip" = some none)
    (v_MOST_COLUMNS : PySem.W.nsIn K mainGlobals "MOST_COLUMNS" = some (some (.int 3 t_MOST_COLUMNS)))
    (v_MOST_LACINGS : PySem.W.nsIn K mainGlobals "MOST_LACINGS" = some (some (.int 400 t_MOST_LACINGS)))
    (v_MOST_LETTERS : PySem.W.nsIn K mainGlobals "MOST_LETTERS" = some (some (.int 8 t_MOST_LETTERS)))
    (v_MOST_POWER : PySem.W.nsIn K mainGlobals "MOST_POWER" = some (some (.int 8 t_MOST_POWER)))
    : ∃ fd : FuncData, (∀ (s : Shared) (v : Value), BindsTo s fd ⟨[v], []⟩ [("_law_script", v)]) ∧ ∀ base : Heap, K.In base → base.Ns mainGlobals mg → FnG l.prog w K mg base CX0 11 fa fd ["_law_script"] (spL K) := by
  have e := hfa.symm.trans (PySem.W.mg_of X G a_law)
  cases e
  have F_is_integer := fun_mk (st := s_is_integer) l_is_integer c_is_integer k_is_integer
  have B_is_integer := F_is_integer.binds (ps := ["value"]) fun _ _ _ _ _ _ us hl => match us, hl with | [_], _ => rfl
  have m_is_integer := PySem.W.mg_of X G a_is_integer
  have F_is_count := fun_mk (st := s_is_count) l_is_count c_is_count k_is_count
  have B_is_count := F_is_count.binds (ps := ["value"]) fun _ _ _ _ _ _ us hl => match us, hl with | [_], _ => rfl
  have m_is_count := PySem.W.mg_of X G a_is_count
  have F_is_count_to := fun_mk (st := s_is_count_to) l_is_count_to c_is_count_to k_is_count_to
  have B_is_count_to := F_is_count_to.binds (ps := ["value", "most"]) fun _ _ _ _ _ _ us hl => match us, hl with | [_, _], _ => rfl
  have m_is_count_to := PySem.W.mg_of X G a_is_count_to
  have F_need_columns := fun_mk (st := s_need_columns) l_need_columns c_need_columns k_need_columns
  have B_need_columns := F_need_columns.binds (ps := ["columns"]) fun _ _ _ _ _ _ us hl => match us, hl with | [_], _ => rfl
  have m_need_columns := PySem.W.mg_of X G a_need_columns
  have F_is_letter_to := fun_mk (st := s_is_letter_to) l_is_letter_to c_is_letter_to k_is_letter_to
  have B_is_letter_to := F_is_letter_to.binds (ps := ["columns", "value", "most"]) fun _ _ _ _ _ _ us hl => match us, hl with | [_, _, _], _ => rfl
  have m_is_letter_to := PySem.W.mg_of X G a_is_letter_to
  have F_is_word_to := fun_mk (st := s_is_word_to) l_is_word_to c_is_word_to k_is_word_to
  have B_is_word_to := F_is_word_to.binds (ps := ["columns", "value", "most"]) fun _ _ _ _ _ _ us hl => match us, hl with | [_, _, _], _ => rfl
  have m_is_word_to := PySem.W.mg_of X G a_is_word_to
  have F_is_word := fun_mk (st := s_is_word) l_is_word c_is_word k_is_word
  have B_is_word := F_is_word.binds (ps := ["columns", "value"]) fun _ _ _ _ _ _ us hl => match us, hl with | [_, _], _ => rfl
  have m_is_word := PySem.W.mg_of X G a_is_word
  have F_need_word := fun_mk (st := s_need_word) l_need_word c_need_word k_need_word
  have B_need_word := F_need_word.binds (ps := ["columns", "word"]) fun _ _ _ _ _ _ us hl => match us, hl with | [_, _], _ => rfl
  have m_need_word := PySem.W.mg_of X G a_need_word
  have F_both_letters := fun_mk (st := s_both_letters) l_both_letters c_both_letters k_both_letters
  have B_both_letters := F_both_letters.binds (ps := ["letter", "other"]) fun _ _ _ _ _ _ us hl => match us, hl with | [_, _], _ => rfl
  have m_both_letters := PySem.W.mg_of X G a_both_letters
  have F_cuts := fun_mk (st := s_cuts) l_cuts c_cuts k_cuts
  have B_cuts := F_cuts.binds (ps := ["columns", "word"]) fun _ _ _ _ _ _ us hl => match us, hl with | [_, _], _ => rfl
  have m_cuts := PySem.W.mg_of X G a_cuts
  have F_turned_word := fun_mk (st := s_turned_word) l_turned_word c_turned_word k_turned_word
  have B_turned_word := F_turned_word.binds (ps := ["columns", "word"]) fun _ _ _ _ _ _ us hl => match us, hl with | [_, _], _ => rfl
  have m_turned_word := PySem.W.mg_of X G a_turned_word
  have F_need_many := fun_mk (st := s__need_many) l_need_many c_need_many k_need_many
  have B_need_many := F_need_many.binds (ps := ["many"]) fun _ _ _ _ _ _ us hl => match us, hl with | [_], _ => rfl
  have m_need_many := PySem.W.mg_of X G a_need_many
  have F_how_many := fun_mk (st := s_how_many) l_how_many c_how_many k_how_many
  have B_how_many := F_how_many.binds (ps := ["many", "other"]) fun _ _ _ _ _ _ us hl => match us, hl with | [_, _], _ => rfl
  have m_how_many := PySem.W.mg_of X G a_how_many
  have F_with_letter := fun_mk (st := s__with_letter) l_with_letter c_with_letter k_with_letter
  have B_with_letter := F_with_letter.binds (ps := ["ways_and_letters"]) fun _ _ _ _ _ _ us hl => match us, hl with | [_], _ => rfl
  have m_with_letter := PySem.W.mg_of X G a_with_letter
  have F_next_line := fun_mk (st := s__next_line) l_next_line c_next_line k_next_line
  have B_next_line := F_next_line.binds (ps := ["line", "letter", "other"]) fun _ _ _ _ _ _ us hl => match us, hl with | [_, _, _], _ => rfl
  have m_next_line := PySem.W.mg_of X G a_next_line
  have F_laced := fun_mk (st := s_laced) l_laced c_laced k_laced
  have B_laced := F_laced.binds (ps := ["word", "other"]) fun _ _ _ _ _ _ us hl => match us, hl with | [_, _], _ => rfl
  have m_laced := PySem.W.mg_of X G a_laced
  have F_lacings := fun_mk (st := s_lacings) l_lacings c_lacings k_lacings
  have B_lacings := F_lacings.binds (ps := ["columns", "word", "other"]) fun _ _ _ _ _ _ us hl => match us, hl with | [_, _, _], _ => rfl
  have m_lacings := PySem.W.mg_of X G a_lacings
  have F_Lletter := fun_mk (st := s__law_letter) l_Lletter c_Lletter k_Lletter
  have B_Lletter := F_Lletter.binds (ps := ["_law_pot_here", "_law_columns", "_law_most"]) fun _ _ _ _ _ _ us hl => match us, hl with | [_, _, _], _ => rfl
  have m_Lletter := PySem.W.mg_of X G a_Lletter
  have F_Lword := fun_mk (st := s__law_word) l_Lword c_Lword k_Lword
  have B_Lword := F_Lword.binds (ps := ["_law_pot_here", "_law_columns", "_law_many"]) fun _ _ _ _ _ _ us hl => match us, hl with | [_, _, _], _ => rfl
  have m_Lword := PySem.W.mg_of X G a_Lword
  have F_Lchoices := fun_mk (st := s__law_choices) l_Lchoices c_Lchoices k_Lchoices
  have B_Lchoices := F_Lchoices.binds (ps := ["_law_below", "_law_many"]) fun _ _ _ _ _ _ us hl => match us, hl with | [_, _], _ => rfl
  have m_Lchoices := PySem.W.mg_of X G a_Lchoices
  have F_Lat := fun_mk (st := s__law_at) l_Lat c_Lat k_Lat
  have B_Lat := F_Lat.binds (ps := ["_law_one", "_law_near", "_law_far", "_law_other", "_law_at_here"]) fun _ _ _ _ _ _ us hl => match us, hl with | [_, _, _, _, _], _ => rfl
  have m_Lat := PySem.W.mg_of X G a_Lat
  have F_Llaced := fun_mk (st := s__law_laced) l_Llaced c_Llaced k_Llaced
  have B_Llaced := F_Llaced.binds (ps := ["_law_one", "_law_other"]) fun _ _ _ _ _ _ us hl => match us, hl with | [_, _], _ => rfl
  have m_Llaced := PySem.W.mg_of X G a_Llaced
  have F_Lfurther := fun_mk (st := s__law_further) l_Lfurther c_Lfurther k_Lfurther
  have B_Lfurther := F_Lfurther.binds (ps := ["_law_columns", "_law_some", "_law_word_here", "_law_is_own"]) fun _ _ _ _ _ _ us hl => match us, hl with | [_, _, _, _], _ => rfl
  have m_Lfurther := PySem.W.mg_of X G a_Lfurther
  have F_Lright := fun_mk (st := s__law_right) l_Lright c_Lright k_Lright
  have B_Lright := F_Lright.binds (ps := ["_law_pot_here"]) fun _ _ _ _ _ _ us hl => match us, hl with | [_], _ => rfl
  have m_Lright := PySem.W.mg_of X G a_Lright
  have F_Ldraw := fun_mk (st := s_draw) l_Ldraw c_Ldraw k_Ldraw
  have B_Ldraw := F_Ldraw.binds (ps := ["_law_pot_here", "_law_many"]) fun _ _ _ _ _ _ us hl => match us, hl with | [_, _], _ => rfl
  have m_Ldraw := PySem.W.mg_of X G a_Ldraw
  have F_Lpot := fun_mk (st := s_pot) l_Lpot c_Lpot k_Lpot
  have B_Lpot := F_Lpot.binds (ps := ["_law_script", "_law_k"]) fun _ _ _ _ _ _ us hl => match us, hl with | [_, _], _ => rfl
  have m_Lpot := PySem.W.mg_of X G a_Lpot
  have F_Lput := fun_mk (st := s__law_put) l_Lput c_Lput k_Lput
  have B_Lput := F_Lput.binds (ps := ["_law_found", "_law_key", "_law_often"]) fun _ _ _ _ _ _ us hl => match us, hl with | [_, _, _], _ => rfl
  have m_Lput := PySem.W.mg_of X G a_Lput
  have F_law := fun_mk (st := s_law) l_law c_law k_law
  have m_law := PySem.W.mg_of X G a_law
  have y_abs := PySem.W.mg_none_of X G z_abs
  have y_all := PySem.W.mg_none_of X G z_all
  have y_bool := PySem.W.mg_none_of X G z_bool
  have y_divmod := PySem.W.mg_none_of X G z_divmod
  have y_enumerate := PySem.W.mg_none_of X G z_enumerate
  have y_int := PySem.W.mg_none_of X G z_int
  have y_isinstance := PySem.W.mg_none_of X G z_isinstance
  have y_len := PySem.W.mg_none_of X G z_len
  have y_list := PySem.W.mg_none_of X G z_list
  have y_max := PySem.W.mg_none_of X G z_max
  have y_range := PySem.W.mg_none_of X G z_range
  have y_sorted := PySem.W.mg_none_of X G z_sorted
  have y_tuple := PySem.W.mg_none_of X G z_tuple
  have y_zip := PySem.W.mg_none_of X G z_zip
  refine ⟨PySem.W.fnOf "law" "law" (defArgs s_law) (defBody s_law) (defScope s_law) .none kV_law dc_law pm_law an_law cd_law ct_law, fun s v => .of_eq rfl, fun base _ _ => ?_⟩
  have W : Wd l.prog w K mg base := { kn := (fun c hc => absurd hc (by simp)), z_all := y_all, z_bool := y_bool, z_enumerate := y_enumerate, z_int := y_int, z_isinstance := y_isinstance, z_len := y_len, z_list := y_list, z_max := y_max, z_range := y_range, z_sorted := y_sorted, z_tuple := y_tuple, z_zip := y_zip, c_MOST_COLUMNS := ⟨_, PySem.W.mg_of X G v_MOST_COLUMNS⟩, c_MOST_LACINGS := ⟨_, PySem.W.mg_of X G v_MOST_LACINGS⟩, c_MOST_LETTERS := ⟨_, PySem.W.mg_of X G v_MOST_LETTERS⟩, c_MOST_POWER := ⟨_, PySem.W.mg_of X G v_MOST_POWER⟩ }
  have G_Ldraw := g_draw (P := l.prog) (w := w) (base := base) F_Ldraw y_divmod y_int
  have G_Lpot := g_pot (P := l.prog) (w := w) (base := base) F_Lpot y_abs y_len y_max y_int
  have p_Ldraw : Pm l.prog w K mg base "_law_draw" 1 2 ["_law_pot_here", "_law_many"] Pd.f__law_draw := ⟨_, _, m_Ldraw, k_Ldraw, G_Ldraw, B_Ldraw⟩
  have G_Lput := g__law_put (P := l.prog) (w := w) (mg := mg) (base := base) F_Lput
  have p_Lput : PmPut l.prog w K mg base "_law_put" 1 ["_law_found", "_law_key", "_law_often"] := ⟨_, _, m_Lput, k_Lput, G_Lput, B_Lput⟩
  have G_is_integer := g_is_integer (P := l.prog) (w := w) (base := base) F_is_integer W 
  have p_is_integer : Pm l.prog w K mg base "is_integer" 1 1 ["value"] Pd.f_is_integer := ⟨_, _, m_is_integer, k_is_integer, G_is_integer, B_is_integer⟩
  have G_is_count := g_is_count (P := l.prog) (w := w) (base := base) F_is_count W p_is_integer
  have p_is_count : Pm l.prog w K mg base "is_count" 2 1 ["value"] Pd.f_is_count := ⟨_, _, m_is_count, k_is_count, G_is_count, B_is_count⟩
  have G_is_count_to := g_is_count_to (P := l.prog) (w := w) (base := base) F_is_count_to W p_is_count
  have p_is_count_to : Pm l.prog w K mg base "is_count_to" 3 2 ["value", "most"] Pd.f_is_count_to := ⟨_, _, m_is_count_to, k_is_count_to, G_is_count_to, B_is_count_to⟩
  have G_need_columns := g_need_columns (P := l.prog) (w := w) (base := base) F_need_columns W p_is_count_to
  have p_need_columns : Pm l.prog w K mg base "need_columns" 4 1 ["columns"] Pd.f_need_columns := ⟨_, _, m_need_columns, k_need_columns, G_need_columns, B_need_columns⟩
  have G_is_letter_to := g_is_letter_to (P := l.prog) (w := w) (base := base) F_is_letter_to W p_is_count_to
  have p_is_letter_to : Pm l.prog w K mg base "is_letter_to" 4 3 ["columns", "value", "most"] Pd.f_is_letter_to := ⟨_, _, m_is_letter_to, k_is_letter_to, G_is_letter_to, B_is_letter_to⟩
  have G_is_word_to := g_is_word_to (P := l.prog) (w := w) (base := base) F_is_word_to W p_is_letter_to
  have p_is_word_to : Pm l.prog w K mg base "is_word_to" 5 3 ["columns", "value", "most"] Pd.f_is_word_to := ⟨_, _, m_is_word_to, k_is_word_to, G_is_word_to, B_is_word_to⟩
  have G_is_word := g_is_word (P := l.prog) (w := w) (base := base) F_is_word W p_is_word_to p_need_columns
  have p_is_word : Pm l.prog w K mg base "is_word" 6 2 ["columns", "value"] Pd.f_is_word := ⟨_, _, m_is_word, k_is_word, G_is_word, B_is_word⟩
  have G_need_word := g_need_word (P := l.prog) (w := w) (base := base) F_need_word W p_is_word
  have p_need_word : Pm l.prog w K mg base "need_word" 7 2 ["columns", "word"] Pd.f_need_word := ⟨_, _, m_need_word, k_need_word, G_need_word, B_need_word⟩
  have G_both_letters := g_both_letters (P := l.prog) (w := w) (base := base) F_both_letters W 
  have p_both_letters : Pm l.prog w K mg base "both_letters" 1 2 ["letter", "other"] Pd.f_both_letters := ⟨_, _, m_both_letters, k_both_letters, G_both_letters, B_both_letters⟩
  have G_cuts := g_cuts (P := l.prog) (w := w) (base := base) F_cuts W p_need_word
  have p_cuts : Pm l.prog w K mg base "cuts" 8 2 ["columns", "word"] Pd.f_cuts := ⟨_, _, m_cuts, k_cuts, G_cuts, B_cuts⟩
  have G_turned_word := g_turned_word (P := l.prog) (w := w) (base := base) F_turned_word W p_need_word
  have p_turned_word : Pm l.prog w K mg base "turned_word" 8 2 ["columns", "word"] Pd.f_turned_word := ⟨_, _, m_turned_word, k_turned_word, G_turned_word, B_turned_word⟩
  have pk_turned_word : PmK l.prog w K mg base "turned_word" 8 2 ["columns", "word"] ["word", "columns"] [1, 0] Pd.f_turned_word := ⟨_, _, m_turned_word, k_turned_word, G_turned_word, fun s us _ hl => match us, hl with | [_, _], _ => .of_eq rfl⟩
  have G_need_many := g__need_many (P := l.prog) (w := w) (base := base) F_need_many W p_is_count_to
  have p_need_many : Pm l.prog w K mg base "_need_many" 4 1 ["many"] Pd.f__need_many := ⟨_, _, m_need_many, k_need_many, G_need_many, B_need_many⟩
  have G_how_many := g_how_many (P := l.prog) (w := w) (base := base) F_how_many W p_need_many
  have p_how_many : Pm l.prog w K mg base "how_many" 5 2 ["many", "other"] Pd.f_how_many := ⟨_, _, m_how_many, k_how_many, G_how_many, B_how_many⟩
  have G_with_letter := g__with_letter (P := l.prog) (w := w) (base := base) F_with_letter W 
  have p_with_letter : Pm l.prog w K mg base "_with_letter" 1 1 ["ways_and_letters"] Pd.f__with_letter := ⟨_, _, m_with_letter, k_with_letter, G_with_letter, B_with_letter⟩
  have G_next_line := g__next_line (P := l.prog) (w := w) (base := base) F_next_line W p_with_letter p_both_letters
  have p_next_line : Pm l.prog w K mg base "_next_line" 2 3 ["line", "letter", "other"] Pd.f__next_line := ⟨_, _, m_next_line, k_next_line, G_next_line, B_next_line⟩
  have G_laced := g_laced (P := l.prog) (w := w) (base := base) F_laced W p_next_line
  have p_laced : Pm l.prog w K mg base "laced" 3 2 ["word", "other"] Pd.f_laced := ⟨_, _, m_laced, k_laced, G_laced, B_laced⟩
  have G_lacings := g_lacings (P := l.prog) (w := w) (base := base) F_lacings W p_how_many p_laced p_need_word
  have p_lacings : PmR l.prog w K mg base "lacings" 8 3 ["columns", "word", "other"] Pd.f_lacings := ⟨_, _, m_lacings, k_lacings, G_lacings, B_lacings⟩
  have pk_lacings : PmRK l.prog w K mg base "lacings" 8 3 ["columns", "word", "other"] ["other", "word", "columns"] [2, 1, 0] Pd.f_lacings := ⟨_, _, m_lacings, k_lacings, G_lacings, fun s us _ hl => match us, hl with | [_, _, _], _ => .of_eq rfl⟩
  have G_Lletter := g__law_letter (P := l.prog) (w := w) (base := base) F_Lletter W p_Ldraw
  have p_Lletter : Pm l.prog w K mg base "_law_letter" 2 3 ["_law_pot_here", "_law_columns", "_law_most"] Pd.f__law_letter := ⟨_, _, m_Lletter, k_Lletter, G_Lletter, B_Lletter⟩
  have G_Lword := g__law_word (P := l.prog) (w := w) (base := base) F_Lword W p_Lletter
  have p_Lword : Pm l.prog w K mg base "_law_word" 3 3 ["_law_pot_here", "_law_columns", "_law_many"] Pd.f__law_word := ⟨_, _, m_Lword, k_Lword, G_Lword, B_Lword⟩
  have G_Lchoices := g__law_choices (P := l.prog) (w := w) (base := base) F_Lchoices W 
  have p_Lchoices : Pm l.prog w K mg base "_law_choices" 1 2 ["_law_below", "_law_many"] Pd.f__law_choices := ⟨_, _, m_Lchoices, k_Lchoices, G_Lchoices, B_Lchoices⟩
  have G_Lat := g__law_at (P := l.prog) (w := w) (base := base) F_Lat W 
  have p_Lat : Pm l.prog w K mg base "_law_at" 1 5 ["_law_one", "_law_near", "_law_far", "_law_other", "_law_at_here"] Pd.f__law_at := ⟨_, _, m_Lat, k_Lat, G_Lat, B_Lat⟩
  have G_Llaced := g__law_laced (P := l.prog) (w := w) (base := base) F_Llaced W p_Lat p_Lchoices
  have p_Llaced : Pm l.prog w K mg base "_law_laced" 2 2 ["_law_one", "_law_other"] Pd.f__law_laced := ⟨_, _, m_Llaced, k_Llaced, G_Llaced, B_Llaced⟩
  have G_Lfurther := g__law_further (P := l.prog) (w := w) (base := base) F_Lfurther W p_Llaced p_Lput p_lacings
  have p_Lfurther : Pm l.prog w K mg base "_law_further" 9 4 ["_law_columns", "_law_some", "_law_word_here", "_law_is_own"] Pd.f__law_further := ⟨_, _, m_Lfurther, k_Lfurther, G_Lfurther, B_Lfurther⟩
  have G_Lright := g__law_right (P := l.prog) (w := w) (base := base) F_Lright W p_Ldraw p_Lfurther p_Llaced p_Lput p_Lword p_cuts p_lacings pk_lacings p_turned_word pk_turned_word
  have p_Lright : Pm l.prog w K mg base "_law_right" 10 1 ["_law_pot_here"] Pd.f__law_right := ⟨_, _, m_Lright, k_Lright, G_Lright, B_Lright⟩
  exact g_law F_law m_Lpot k_Lpot m_Lright k_Lright G_Lpot B_Lpot G_Lright B_Lright
end Pd

open PySem PySem.W PyProof.Rows in
set_option maxHeartbeats 0 in
theorem PySem.Challenge.cw_aheadsums_k25_whole_lacings_of_three_and_holds : PySem.Challenge.rw_aheadsums_k25_whole_lacings_of_three_and.Holds := by
  w_on; o_law; k_head; (case hw => w_witness2)
  k_fill
  refine Pd.walkG (n := 63) (k := 11) (x := "_law_script") (l := PySem.Challenge.rw_aheadsums_k25_whole_lacings_of_three_and) (sp := fun w => Pd.spL _) rfl (by decide) rfl ⟨rfl, by decide, by decide⟩ (fun w h Y => PySem.W.kIn_of Y) ?F fun w H a ns _ _ hS => ⟨a, ns, rfl, hS, fun _ => rfl⟩
  case F =>
    intro w mg fa h KX G hmg
    refine' Pd.all_mk KX G hmg ?a_is_integer ?l_is_integer ?c_is_integer ?k_is_integer ?a_is_count ?l_is_count ?c_is_count ?k_is_count ?a_is_count_to ?l_is_count_to ?c_is_count_to ?k_is_count_to ?a_need_columns ?l_need_columns ?c_need_columns ?k_need_columns ?a_is_letter_to ?l_is_letter_to ?c_is_letter_to ?k_is_letter_to ?a_is_word_to ?l_is_word_to ?c_is_word_to ?k_is_word_to ?a_is_word ?l_is_word ?c_is_word ?k_is_word ?a_need_word ?l_need_word ?c_need_word ?k_need_word ?a_both_letters ?l_both_letters ?c_both_letters ?k_both_letters ?a_cuts ?l_cuts ?c_cuts ?k_cuts ?a_turned_word ?l_turned_word ?c_turned_word ?k_turned_word ?a_need_many ?l_need_many ?c_need_many ?k_need_many ?a_how_many ?l_how_many ?c_how_many ?k_how_many ?a_with_letter ?l_with_letter ?c_with_letter ?k_with_letter ?a_next_line ?l_next_line ?c_next_line ?k_next_line ?a_laced ?l_laced ?c_laced ?k_laced ?a_lacings ?l_lacings ?c_lacings ?k_lacings ?a_Lletter ?l_Lletter ?c_Lletter ?k_Lletter ?a_Lword ?l_Lword ?c_Lword ?k_Lword ?a_Lchoices ?l_Lchoices ?c_Lchoices ?k_Lchoices ?a_Lat ?l_Lat ?c_Lat ?k_Lat ?a_Llaced ?l_Llaced ?c_Llaced ?k_Llaced ?a_Lfurther ?l_Lfurther ?c_Lfurther ?k_Lfurther ?a_Lright ?l_Lright ?c_Lright ?k_Lright ?a_Ldraw ?l_Ldraw ?c_Ldraw ?k_Ldraw ?a_Lpot ?l_Lpot ?c_Lpot ?k_Lpot ?a_Lput ?l_Lput ?c_Lput ?k_Lput ?a_law ?l_law ?c_law ?k_law ?z_abs ?z_all ?z_bool ?z_divmod ?z_enumerate ?z_int ?z_isinstance ?z_len ?z_list ?z_max ?z_range ?z_sorted ?z_tuple ?z_zip ?v_MOST_COLUMNS ?v_MOST_LACINGS ?v_MOST_LETTERS ?v_MOST_POWER
    (case a_is_integer => k_is)
    (case l_is_integer => k_is)
    (case c_is_integer => k_is)
    (case k_is_integer => k_is)
    (case a_is_count => k_is)
    (case l_is_count => k_is)
    (case c_is_count => k_is)
    (case k_is_count => k_is)
    (case a_is_count_to => k_is)
    (case l_is_count_to => k_is)
    (case c_is_count_to => k_is)
    (case k_is_count_to => k_is)
    (case a_need_columns => k_is)
    (case l_need_columns => k_is)
    (case c_need_columns => k_is)
    (case k_need_columns => k_is)
    (case a_is_letter_to => k_is)
    (case l_is_letter_to => k_is)
    (case c_is_letter_to => k_is)
    (case k_is_letter_to => k_is)
    (case a_is_word_to => k_is)
    (case l_is_word_to => k_is)
    (case c_is_word_to => k_is)
    (case k_is_word_to => k_is)
    (case a_is_word => k_is)
    (case l_is_word => k_is)
    (case c_is_word => k_is)
    (case k_is_word => k_is)
    (case a_need_word => k_is)
    (case l_need_word => k_is)
    (case c_need_word => k_is)
    (case k_need_word => k_is)
    (case a_both_letters => k_is)
    (case l_both_letters => k_is)
    (case c_both_letters => k_is)
    (case k_both_letters => k_is)
    (case a_cuts => k_is)
    (case l_cuts => k_is)
    (case c_cuts => k_is)
    (case k_cuts => k_is)
    (case a_turned_word => k_is)
    (case l_turned_word => k_is)
    (case c_turned_word => k_is)
    (case k_turned_word => k_is)
    (case a_need_many => k_is)
    (case l_need_many => k_is)
    (case c_need_many => k_is)
    (case k_need_many => k_is)
    (case a_how_many => k_is)
    (case l_how_many => k_is)
    (case c_how_many => k_is)
    (case k_how_many => k_is)
    (case a_with_letter => k_is)
    (case l_with_letter => k_is)
    (case c_with_letter => k_is)
    (case k_with_letter => k_is)
    (case a_next_line => k_is)
    (case l_next_line => k_is)
    (case c_next_line => k_is)
    (case k_next_line => k_is)
    (case a_laced => k_is)
    (case l_laced => k_is)
    (case c_laced => k_is)
    (case k_laced => k_is)
    (case a_lacings => k_is)
    (case l_lacings => k_is)
    (case c_lacings => k_is)
    (case k_lacings => k_is)
    (case a_Lletter => k_is)
    (case l_Lletter => k_is)
    (case c_Lletter => k_is)
    (case k_Lletter => k_is)
    (case a_Lword => k_is)
    (case l_Lword => k_is)
    (case c_Lword => k_is)
    (case k_Lword => k_is)
    (case a_Lchoices => k_is)
    (case l_Lchoices => k_is)
    (case c_Lchoices => k_is)
    (case k_Lchoices => k_is)
    (case a_Lat => k_is)
    (case l_Lat => k_is)
    (case c_Lat => k_is)
    (case k_Lat => k_is)
    (case a_Llaced => k_is)
    (case l_Llaced => k_is)
    (case c_Llaced => k_is)
    (case k_Llaced => k_is)
    (case a_Lfurther => k_is)
    (case l_Lfurther => k_is)
    (case c_Lfurther => k_is)
    (case k_Lfurther => k_is)
    (case a_Lright => k_is)
    (case l_Lright => k_is)
    (case c_Lright => k_is)
    (case k_Lright => k_is)
    (case a_Ldraw => k_is)
    (case l_Ldraw => k_is)
    (case c_Ldraw => k_is)
    (case k_Ldraw => k_is)
    (case a_Lpot => k_is)
    (case l_Lpot => k_is)
    (case c_Lpot => k_is)
    (case k_Lpot => k_is)
    (case a_Lput => k_is)
    (case l_Lput => k_is)
    (case c_Lput => k_is)
    (case k_Lput => k_is)
    (case a_law => k_is)
    (case l_law => k_is)
    (case c_law => k_is)
    (case k_law => k_is)
    (case z_abs => k_is)
    (case z_all => k_is)
    (case z_bool => k_is)
    (case z_divmod => k_is)
    (case z_enumerate => k_is)
    (case z_int => k_is)
    (case z_isinstance => k_is)
    (case z_len => k_is)
    (case z_list => k_is)
    (case z_max => k_is)
    (case z_range => k_is)
    (case z_sorted => k_is)
    (case z_tuple => k_is)
    (case z_zip => k_is)
    (case v_MOST_COLUMNS => k_is)
    (case v_MOST_LACINGS => k_is)
    (case v_MOST_LETTERS => k_is)
    (case v_MOST_POWER => k_is)
#print axioms PySem.Challenge.cw_aheadsums_k25_whole_lacings_of_three_and_holds

