import PyProof.Rows.All
import Wide.All
import OpenK.AllK
import Wide.FinOn
import HandS.ForMost
import HandS.TupAny
import HandS.TupMul
import KE.KDictKeyed
import KE.KeyNested
import HandS.Style
import HandS.Zip
import HandS.IsInst
import KE.KDictDisplayH
import KE.KDictWalk
import HandS.Dict
import HandS.Iter
import KE.GoesEnum
import KE.SortData
import HandS.More
import OpenK.KMore
import PyProof.ReprRoads
import HandS.Ends
import HandS.Property
import KE.KOpsOwn
import PyProof.TwoTypes
import HandS.FStr
import HandS.RaiseMore
import KE.KCallOwn
import HandS.MakeKwOnly
import HandS.ClsMeth
import HandS.CallLocal
import PyProof.ReprNest
import PyProof.ReprHeadsEmpty
import PyProof.StrHeap
import PyProof.ReprDict
import HandS.OwnEq
import HandS.Defaults
import KE.KRevSl
import HandS.Gcd
import PySem.Challenge.RW_aheadsums_k22_whole_words_over_rows
set_option Elab.async false
set_option maxRecDepth 100000
set_option maxHeartbeats 4000000
set_option exponentiation.threshold 10000
set_option linter.all false
/-! Data of a run as plain values: the heap only grows but for lists and dicts that one def builds (own ones) and for the pot of draws. -/
namespace Pd
open PySem L2

inductive D where
  | non | bl (b : Bool) | int (i : Int) | str (x : Str) | tup (ds : List D) | lst (ds : List D) | dic (kvs : List (D × D)) | pot | ins (c : Str) (fs : List (Str × D))

mutual
def D.nk : D → Option NestedKey
  | .non => some .none
  | .bl b => some (.num (if b = true then 1 else 0))
  | .int i => some (.num i)
  | .str x => some (.text x)
  | .tup ds => match D.nks ds with
    | some ks => some (.tup ks)
    | none => none
  | .lst _ => none
  | .dic _ => none
  | .pot => none
  | .ins _ _ => none
def D.nks : List D → Option (List NestedKey)
  | [] => some []
  | d :: ds => match D.nk d with
    | none => none
    | some k => match D.nks ds with
      | none => none
      | some ks => some (k :: ks)
end
mutual
def D.py : D → Option PyData
  | .non => some .none
  | .bl b => some (.bool b)
  | .int i => some (.int i)
  | .str x => some (.str x)
  | .tup ds => match D.pys ds with
    | some ks => some (.tuple ks)
    | none => none
  | .lst ds => match D.pys ds with
    | some ks => some (.list ks)
    | none => none
  | .dic _ => none
  | .pot => none
  | .ins _ _ => none
def D.pys : List D → Option (List PyData)
  | [] => some []
  | d :: ds => match D.py d with
    | none => none
    | some k => match D.pys ds with
      | none => none
      | some ks => some (k :: ks)
end

/-! ### runs with draws -/
inductive T (α : Type) where
  | ret (a : α) | fail | draw (n : Nat) (k : Nat → T α)
def T.bind {α β : Type} : T α → (α → T β) → T β
  | .ret a, f => f a
  | .fail, _ => .fail
  | .draw n k, f => .draw n fun i => (k i).bind f
def T.all {α : Type} (P : α → Prop) : T α → Prop
  | .ret a => P a
  | .fail => False
  | .draw n k => ∀ i, i < n → (k i).all P
theorem T.all_bind {α β : Type} {P : β → Prop} : ∀ {t : T α} {f : α → T β}, (t.bind f).all P ↔ t.all fun a => (f a).all P
  | .ret _, _ => Iff.rfl
  | .fail, _ => Iff.rfl
  | .draw n k, f => by
    show (∀ i, i < n → ((k i).bind f).all P) ↔ (∀ i, i < n → (k i).all fun a => (f a).all P)
    exact ⟨fun h i hi => T.all_bind.mp (h i hi), fun h i hi => T.all_bind.mpr (h i hi)⟩
theorem T.all_mono {α : Type} {P Q : α → Prop} (h : ∀ a, P a → Q a) : ∀ {t : T α}, t.all P → t.all Q
  | .ret a, x => h a x
  | .fail, x => x
  | .draw _ _, x => fun i hi => T.all_mono h (x i hi)
/-- decided -/
def T.allB {α : Type} (p : α → Bool) : T α → Bool
  | .ret a => p a
  | .fail => false
  | .draw n k => (List.range n).all fun i => (k i).allB p
theorem T.all_of {α : Type} {p : α → Bool} : ∀ {t : T α}, t.allB p = true → t.all fun a => p a = true
  | .ret _, h => h
  | .fail, h => by cases h
  | .draw n k, h => fun i hi => T.all_of (List.all_eq_true.mp h i (List.mem_range.mpr hi))

/-! ### what stands in the heap -/
def DN (P : Program) (w : World) (a : Addr) (xs : List (NestedKey × Addr × V)) : HO := .ext fun h => (a == sysModules) = false ∧ xs.length ≤ sizeLine ∧ (xs.map (·.1)).Nodup ∧ ∃ ys : List (NestedKey × Addr × Value),
  Paired (fun p q => p.1 = q.1 ∧ p.2.1 = q.2.1 ∧ RelV p.2.2 q.2.2) xs ys ∧ ∃ o es ep, h.get? a = some o ∧ o.ExactDict ∧ o.data = .dict es ep ∧ es.toList = ys.map (entryOfKey (nestedKind P w))

section
variable (K : PySem.W.Frag) (P : Program) (w : World) (π : Addr)
mutual
inductive Rv (H : Hp) : V → D → Prop
  | non : Rv H .non .non
  | bl (b : Bool) : Rv H (.bl b) (.bl b)
  | int (i : Int) : Rv H (.int i) (.int i)
  | str (x : Str) : Rv H (.str x) (.str x)
  | tup {a : Addr} {vs : List V} {ds : List D} : H a = some (.tup vs) → a ≠ π → RvL H vs ds → Rv H (.ref a) (.tup ds)
  | tupK {a : Addr} {vs : List V} {ds : List D} : (∀ H', SqT K H' a vs) → RvL H vs ds → Rv H (.ref a) (.tup ds)
  | lst {a : Addr} {vs : List V} {ds : List D} : H a = some (.lst vs) → a ≠ π → RvL H vs ds → Rv H (.ref a) (.lst ds)
  | dic {a : Addr} {od : Obj} {xs : List (NestedKey × Addr × V)} {kvs : List (D × D)} : H a = some (.frz od (DN P w a xs)) → a ≠ π → RvD H xs kvs → Rv H (.ref a) (.dic kvs)
  | pot : Rv H (.ref π) .pot
  | ins {a dx C : Addr} {c : Str} {fs : List (Str × V)} {ds : List (Str × D)} : PySem.W.nsIn K mainGlobals c = some (some (.ref C)) → H a = some (.ins C dx fs) → a ≠ π → RvF H fs ds → Rv H (.ref a) (.ins c ds)
inductive RvF (H : Hp) : List (Str × V) → List (Str × D) → Prop
  | nil : RvF H [] []
  | cons {x : Str} {v : V} {d : D} {fs : List (Str × V)} {ds : List (Str × D)} : Rv H v d → RvF H fs ds → RvF H ((x, v) :: fs) ((x, d) :: ds)
inductive RvL (H : Hp) : List V → List D → Prop
  | nil : RvL H [] []
  | cons {v : V} {d : D} {vs : List V} {ds : List D} : Rv H v d → RvL H vs ds → RvL H (v :: vs) (d :: ds)
inductive RvD (H : Hp) : List (NestedKey × Addr × V) → List (D × D) → Prop
  | nil : RvD H [] []
  | cons {k : NestedKey} {a : Addr} {v : V} {dk dv : D} {xs : List (NestedKey × Addr × V)} {kvs : List (D × D)} : dk.nk = some k → k.depth ≤ 8 → Rv H (.ref a) dk → Rv H v dv → RvD H xs kvs → RvD H ((k, a, v) :: xs) ((dk, dv) :: kvs)
end
end

/-- what is tracked (but the pot) stays -/
def Kp (π : Addr) (H H' : Hp) : Prop := ∀ a o, a ≠ π → H a = some o → H' a = some o
theorem Kp.refl {π : Addr} {H : Hp} : Kp π H H := fun _ _ _ h => h
theorem Kp.trans {π : Addr} {H H1 H2 : Hp} (a : Kp π H H1) (b : Kp π H1 H2) : Kp π H H2 := fun x o n h => b x o n (a x o n h)

section
variable {K : PySem.W.Frag} {P : Program} {w : World} {π : Addr} {H H' : Hp}
mutual
theorem Rv.mono (k : Kp π H H') : ∀ {d : D} {v : V}, Rv K P w π H v d → Rv K P w π H' v d
  | _, _, .non => .non
  | _, _, .bl b => .bl b
  | _, _, .int i => .int i
  | _, _, .str x => .str x
  | _, _, .tup h n r => .tup (k _ _ n h) n (RvL.mono k r)
  | _, _, .tupK h r => .tupK h (RvL.mono k r)
  | _, _, .lst h n r => .lst (k _ _ n h) n (RvL.mono k r)
  | _, _, .dic h n r => .dic (k _ _ n h) n (RvD.mono k r)
  | _, _, .pot => .pot
  | _, _, .ins c h n r => .ins c (k _ _ n h) n (RvF.mono k r)
theorem RvF.mono (k : Kp π H H') : ∀ {ds : List (Str × D)} {vs : List (Str × V)}, RvF K P w π H vs ds → RvF K P w π H' vs ds
  | _, _, .nil => .nil
  | _, _, .cons r t => .cons (Rv.mono k r) (RvF.mono k t)
theorem RvL.mono (k : Kp π H H') : ∀ {ds : List D} {vs : List V}, RvL K P w π H vs ds → RvL K P w π H' vs ds
  | _, _, .nil => .nil
  | _, _, .cons r t => .cons (Rv.mono k r) (RvL.mono k t)
theorem RvD.mono (k : Kp π H H') : ∀ {kvs : List (D × D)} {xs : List (NestedKey × Addr × V)}, RvD K P w π H xs kvs → RvD K P w π H' xs kvs
  | _, _, .nil => .nil
  | _, _, .cons e dp rk r t => .cons e dp (Rv.mono k rk) (Rv.mono k r) (RvD.mono k t)
end
theorem RvL.length : ∀ {ds : List D} {vs : List V}, RvL K P w π H vs ds → vs.length = ds.length
  | _, _, .nil => rfl
  | _, _, .cons _ t => congrArg Nat.succ (RvL.length t)
theorem RvL.get : ∀ {ds : List D} {vs : List V} {i : Nat} {d : D}, RvL K P w π H vs ds → ds[i]? = some d → ∃ v, vs[i]? = some v ∧ Rv K P w π H v d
  | _, _, _, _, .nil, e => by simp at e
  | _, _, 0, _, .cons r _, e => by simp at e; subst e; exact ⟨_, rfl, r⟩
  | _, _, i + 1, _, .cons _ t, e => RvL.get (i := i) t e
theorem RvL.get' : ∀ {ds : List D} {vs : List V} {i : Nat} {v : V}, RvL K P w π H vs ds → vs[i]? = some v → ∃ d, ds[i]? = some d ∧ Rv K P w π H v d
  | _, _, _, _, .nil, e => by simp at e
  | _, _, 0, _, .cons r _, e => by simp at e; subst e; exact ⟨_, rfl, r⟩
  | _, _, i + 1, _, .cons _ t, e => RvL.get' (i := i) t e
theorem RvL.append : ∀ {ds es : List D} {vs us : List V}, RvL K P w π H vs ds → RvL K P w π H us es → RvL K P w π H (vs ++ us) (ds ++ es)
  | _, _, _, _, .nil, s => s
  | _, _, _, _, .cons r t, s => .cons r (RvL.append t s)
theorem RvL.set {x : V} {d : D} (r : Rv K P w π H x d) : ∀ {ds : List D} {vs : List V} (i : Nat), RvL K P w π H vs ds → RvL K P w π H (vs.set i x) (ds.set i d)
  | _, _, _, .nil => .nil
  | _, _, 0, .cons _ t => .cons r t
  | _, _, i + 1, .cons q t => .cons q (RvL.set r i t)
theorem RvL.take : ∀ {ds : List D} {vs : List V} (n : Nat), RvL K P w π H vs ds → RvL K P w π H (vs.take n) (ds.take n)
  | _, _, 0, _ => .nil
  | _, _, _ + 1, .nil => .nil
  | _, _, n + 1, .cons r t => .cons r (RvL.take n t)
theorem RvL.drop : ∀ {ds : List D} {vs : List V} (n : Nat), RvL K P w π H vs ds → RvL K P w π H (vs.drop n) (ds.drop n)
  | _, _, 0, r => r
  | _, _, _ + 1, .nil => .nil
  | _, _, n + 1, .cons _ t => RvL.drop n t
end

def Hide (N : Addr → Bool) (H : Hp) : Hp := fun a => if N a = true then none else H a
theorem hide_some {N : Addr → Bool} {H : Hp} {a : Addr} {o : HO} (h : Hide N H a = some o) : N a = false ∧ H a = some o := by
  unfold Hide at h
  by_cases n : N a = true
  · rw [if_pos n] at h
    cases h
  · rw [if_neg n] at h
    exact ⟨by simpa using n, h⟩
theorem hide_in {N : Addr → Bool} {H : Hp} {a : Addr} (n : N a = false) : Hide N H a = H a := by
  unfold Hide
  rw [if_neg (by rw [n]; exact Bool.false_ne_true)]
theorem Kp.hide {π : Addr} {N : Addr → Bool} {H H' : Hp} (k : Kp π H H') : Kp π (Hide N H) (Hide N H') := fun a o n h => by
  obtain ⟨na, ha⟩ := hide_some h
  rw [hide_in na]
  exact k a o n ha
theorem Kp.unhide {π : Addr} {N : Addr → Bool} {H : Hp} : Kp π (Hide N H) H := fun _ _ _ h => (hide_some h).2
theorem Kp.less {π : Addr} {N N' : Addr → Bool} {H : Hp} (s : ∀ a, N' a = true → N a = true) : Kp π (Hide N H) (Hide N' H) := fun a o _ h => by
  obtain ⟨na, ha⟩ := hide_some h
  rw [hide_in, ha]
  cases q : N' a with
  | false => rfl
  | true => rw [s a q] at na; cases na

def PotOk (H : Hp) (π : Addr) : Prop := ∃ x y : Int, H π = some (.lst [.int x, .int y]) ∧ 0 ≤ x ∧ 0 ≤ y ∧ y < 2147483648
structure Ex (π : Addr) (H H' : Hp) : Prop where
  kp : Kp π H H'
  pot : PotOk H' π
theorem Ex.refl {π : Addr} {H : Hp} (p : PotOk H π) : Ex π H H := ⟨.refl, p⟩
theorem Ex.trans {π : Addr} {H H1 H2 : Hp} (a : Ex π H H1) (b : Ex π H1 H2) : Ex π H H2 := ⟨a.kp.trans b.kp, b.pot⟩
structure HN (π : Addr) (N : Addr → Bool) (H : Hp) : Prop where
  pot : PotOk H π
  npi : N π = false
  isS : ∀ a, N a = true → H a ≠ none
theorem HN.ext {π : Addr} {N : Addr → Bool} {H H' : Hp} (h : HN π N H) (e : Ex π H H') : HN π N H' := ⟨e.pot, h.npi, fun a n => by
  have q := h.isS a n
  have ne : a ≠ π := fun z => by rw [z, h.npi] at n; cases n
  cases c : H a with
  | none => exact absurd c q
  | some o => rw [e.kp a o ne c]; exact fun z => by cases z⟩
theorem PotOk.ne {π p : Addr} {H : Hp} (h : PotOk H π) (n : H p = none) : p ≠ π := fun e => by
  obtain ⟨x, y, q, _⟩ := h
  rw [← e, n] at q
  cases q
theorem HN.new {π p : Addr} {N : Addr → Bool} {H : Hp} (h : HN π N H) (n : H p = none) : N p = false := by
  cases c : N p with
  | false => rfl
  | true => exact absurd n (h.isS p c)
theorem Ex.new {π p : Addr} {H : Hp} {o : HO} (h : PotOk H π) (n : H p = none) : Ex π H (upd H p o) := ⟨fun a u _ e => by
  rw [upd_ne (ne_of_none e n)]
  exact e, by
  obtain ⟨x, y, q, r⟩ := h
  exact ⟨x, y, by rw [upd_ne (ne_of_none q n)]; exact q, r⟩⟩
theorem hide_new {p : Addr} {N : Addr → Bool} {H : Hp} {o : HO} (n : N p = false) : Hide N (upd H p o) p = some o := by
  rw [hide_in n, upd_same]

/-! ### the names of a def -/
inductive Ent where
  | un | val (d : D) | own (ds : List D) | ownD (kvs : List (D × D)) | ownI (c : Str) (fs : List (Str × D))
abbrev Rho := List Ent
def Ent.isOwn : Ent → Bool
  | .own _ => true
  | .ownD _ => true
  | .ownI _ _ => true
  | _ => false
/-- what stands at l for an own thing -/
def OwnAt (K : PySem.W.Frag) (P : Program) (w : World) (π : Addr) (H : Hp) (l : Addr) (o : HO) : Ent → Prop
  | .own ds => ∃ vs, o = .lst vs ∧ RvL K P w π H vs ds
  | .ownD kvs => ∃ xs, o = DN P w l xs ∧ RvD K P w π H xs kvs
  | .ownI c fs => ∃ C dx vs, o = .ins C dx vs ∧ PySem.W.nsIn K mainGlobals c = some (some (.ref C)) ∧ RvF K P w π H vs fs
  | _ => False
theorem OwnAt.isOwn {K : PySem.W.Frag} {P : Program} {w : World} {π l : Addr} {H : Hp} {o : HO} : ∀ {x : Ent}, OwnAt K P w π H l o x → x.isOwn = true
  | .own _, _ => rfl
  | .ownD _, _ => rfl
  | .ownI _ _, _ => rfl
theorem OwnAt.mono {K : PySem.W.Frag} {P : Program} {w : World} {π l : Addr} {H H' : Hp} {o : HO} (k : Kp π H H') : ∀ {x : Ent}, OwnAt K P w π H l o x → OwnAt K P w π H' l o x
  | .own _, ⟨vs, e, r⟩ => ⟨vs, e, r.mono k⟩
  | .ownD _, ⟨vs, e, r⟩ => ⟨vs, e, r.mono k⟩
  | .ownI _ _, ⟨C, dx, vs, e, c, r⟩ => ⟨C, dx, vs, e, c, r.mono k⟩

structure EnvOk (K : PySem.W.Frag) (P : Program) (w : World) (π : Addr) (N0 : Addr → Bool) (H0 : Hp) (N : Addr → Bool) (H : Hp) (σ : L2.St) (ρ : Rho) : Prop where
  hn : HN π N H
  ex : Kp π H0 H
  sub : ∀ a, N0 a = true → N a = true
  own0 : ∀ a, N a = true → N0 a = true ∨ H0 a = none
  len : σ.length = ρ.length
  val : ∀ (i : Nat) (d : D), ρ[i]? = some (.val d) → ∃ v, σ[i]? = some (some v) ∧ Rv K P w π (Hide N H) v d
  own : ∀ (i : Nat) (x : Ent), ρ[i]? = some x → x.isOwn = true → ∃ l o, σ[i]? = some (some (.ref l)) ∧ N l = true ∧ N0 l = false ∧ H l = some o ∧ OwnAt K P w π (Hide N H) l o x
  inj : ∀ (i j : Nat) (e f : Ent) (l : Addr), ρ[i]? = some e → ρ[j]? = some f → e.isOwn = true → f.isOwn = true → σ[i]? = some (some (.ref l)) → σ[j]? = some (some (.ref l)) → i = j

section
variable {K : PySem.W.Frag} {P : Program} {w : World} {π : Addr} {N0 N : Addr → Bool} {H0 H H' : Hp} {σ : L2.St} {ρ : Rho}
theorem EnvOk.lst (I : EnvOk K P w π N0 H0 N H σ ρ) (i : Nat) (ds : List D) (h : ρ[i]? = some (.own ds)) : ∃ l vs, σ[i]? = some (some (.ref l)) ∧ N l = true ∧ N0 l = false ∧ H l = some (.lst vs) ∧ RvL K P w π (Hide N H) vs ds := by
  obtain ⟨l, o, a, n, n0, b, vs, rfl, r⟩ := I.own i _ h rfl
  exact ⟨l, vs, a, n, n0, b, r⟩
theorem EnvOk.dic (I : EnvOk K P w π N0 H0 N H σ ρ) (i : Nat) (kvs : List (D × D)) (h : ρ[i]? = some (.ownD kvs)) : ∃ l xs, σ[i]? = some (some (.ref l)) ∧ N l = true ∧ N0 l = false ∧ H l = some (DN P w l xs) ∧ RvD K P w π (Hide N H) xs kvs := by
  obtain ⟨l, o, a, n, n0, b, vs, rfl, r⟩ := I.own i _ h rfl
  exact ⟨l, vs, a, n, n0, b, r⟩
theorem EnvOk.obj (I : EnvOk K P w π N0 H0 N H σ ρ) (i : Nat) (c : Str) (fs : List (Str × D)) (h : ρ[i]? = some (.ownI c fs)) : ∃ l C dx vs, σ[i]? = some (some (.ref l)) ∧ N l = true ∧ N0 l = false ∧ H l = some (.ins C dx vs) ∧ PySem.W.nsIn K mainGlobals c = some (some (.ref C)) ∧ RvF K P w π (Hide N H) vs fs := by
  obtain ⟨l, o, a, n, n0, b, C, dx, vs, rfl, c, r⟩ := I.own i _ h rfl
  exact ⟨l, C, dx, vs, a, n, n0, b, c, r⟩
theorem EnvOk.ext (I : EnvOk K P w π N0 H0 N H σ ρ) (e : Ex π H H') : EnvOk K P w π N0 H0 N H' σ ρ where
  hn := I.hn.ext e
  ex := I.ex.trans e.kp
  sub := I.sub
  own0 := I.own0
  len := I.len
  val := fun i d h => let ⟨v, a, b⟩ := I.val i d h; ⟨v, a, b.mono e.kp.hide⟩
  own := fun i x h ho => let ⟨l, o, a, n, n0, b, c⟩ := I.own i x h ho
    ⟨l, o, a, n, n0, e.kp l _ (fun z => by rw [z, I.hn.npi] at n; cases n) b, c.mono e.kp.hide⟩
  inj := I.inj
/-- a name gets a value -/
theorem EnvOk.set {i : Nat} {v : V} {d : D} (I : EnvOk K P w π N0 H0 N H σ ρ) (r : Rv K P w π (Hide N H) v d) : EnvOk K P w π N0 H0 N H (σ.set i (some v)) (ρ.set i (.val d)) where
  hn := I.hn
  ex := I.ex
  sub := I.sub
  own0 := I.own0
  len := by rw [List.length_set, List.length_set]; exact I.len
  val := fun j e h => by
    by_cases q : i = j
    · subst q
      have hl : i < ρ.length := by
        have z := (List.getElem?_eq_some_iff.mp h).1
        rw [List.length_set] at z
        exact z
      rw [List.getElem?_set_self hl] at h
      cases h
      exact ⟨v, List.getElem?_set_self (by rw [I.len]; exact hl), r⟩
    · rw [List.getElem?_set_ne q] at h ⊢
      exact I.val j e h
  own := fun j x h ho => by
    by_cases q : i = j
    · subst q
      have hl : i < ρ.length := by
        have z := (List.getElem?_eq_some_iff.mp h).1
        rw [List.length_set] at z
        exact z
      rw [List.getElem?_set_self hl] at h
      cases h
      cases ho
    · rw [List.getElem?_set_ne q] at h ⊢
      exact I.own j x h ho
  inj := fun j k e f l h1 h2 o1 o2 s1 s2 => by
    have aux : ∀ {j : Nat} {e : Ent}, (ρ.set i (.val d))[j]? = some e → e.isOwn = true → i ≠ j := fun {j e} h1 o1 q => by
      subst q
      have hl : i < ρ.length := by
        have z := (List.getElem?_eq_some_iff.mp h1).1
        rw [List.length_set] at z
        exact z
      rw [List.getElem?_set_self hl] at h1
      cases h1
      cases o1
    have nj := aux h1 o1
    have nk := aux h2 o2
    rw [List.getElem?_set_ne nj] at h1 s1
    rw [List.getElem?_set_ne nk] at h2 s2
    exact I.inj j k e f l h1 h2 o1 o2 s1 s2
end
end Pd

namespace Pd
open PySem L2

section
variable {K : PySem.W.Frag} {P : Program} {w : World} {π : Addr} {N0 N N' : Addr → Bool} {H0 H H' : Hp} {σ σ' : L2.St} {ρ ρ' : Rho}
theorem at_set {α : Type} {l : List α} {i j : Nat} {x y : α} (h : (l.set i x)[j]? = some y) : (i = j ∧ i < l.length ∧ x = y) ∨ (i ≠ j ∧ l[j]? = some y) := by
  by_cases q : i = j
  · subst q
    have hl : i < l.length := by
      have z := (List.getElem?_eq_some_iff.mp h).1
      rw [List.length_set] at z
      exact z
    rw [List.getElem?_set_self hl] at h
    exact .inl ⟨rfl, hl, Option.some.inj h⟩
  · rw [List.getElem?_set_ne q] at h
    exact .inr ⟨q, h⟩
def plus (N : Addr → Bool) (l : Addr) : Addr → Bool := fun a => N a || a == l
def minus (N : Addr → Bool) (l : Addr) : Addr → Bool := fun a => N a && a != l
theorem plus_old {l a : Addr} (h : N a = true) : plus N l a = true := by simp [plus, h]
theorem plus_self {l : Addr} : plus N l l = true := by simp [plus]
theorem plus_or {l a : Addr} (h : plus N l a = true) : N a = true ∨ a = l := by simpa [plus] using h
theorem minus_of {l a : Addr} (h : N a = true) (n : a ≠ l) : minus N l a = true := by simp [minus, h, n]
theorem minus_in {l a : Addr} (h : minus N l a = true) : N a = true ∧ a ≠ l := by simpa [minus] using h
theorem minus_self {l : Addr} : minus N l l = false := by simp [minus]

theorem N_ne (hn : HN π N H) {l : Addr} (h : N l = true) : l ≠ π := fun z => by rw [z, hn.npi] at h; cases h
theorem Ex.hidden (e : Ex π H H') {l : Addr} (hl : H l = none) : Kp π (Hide N H) (Hide (plus N l) H') := fun a o n h => by
  obtain ⟨na, ha⟩ := hide_some h
  have ne : a ≠ l := fun z => by rw [z, hl] at ha; cases ha
  rw [hide_in (by simp [plus, na, ne])]
  exact e.kp a o n ha
/-- what a new own thing leaves -/
theorem EnvOk.newOwn {i : Nat} {l : Addr} {x : Ent} {o : HO} (I : EnvOk K P w π N0 H0 N H σ ρ) (e : Ex π H H') (hl : H l = none) (ho : H' l = some o) (hx : OwnAt K P w π (Hide (plus N l) H') l o x) :
    EnvOk K P w π N0 H0 (plus N l) H' (σ.set i (some (.ref l))) (ρ.set i x) := by
  have hl' : H' l ≠ none := by rw [ho]; exact fun z => by cases z
  have lpi : l ≠ π := I.hn.pot.ne hl
  have Nl : N l = false := I.hn.new hl
  have N0l : N0 l = false := by
    cases c : N0 l with
    | false => rfl
    | true => rw [I.sub l c] at Nl; cases Nl
  have keep : ∀ {l' : Addr} {o : HO}, N l' = true → H l' = some o → l' ≠ l ∧ H' l' = some o := fun {l' o} n h => ⟨(fun z => by rw [z, Nl] at n; cases n), e.kp l' o (N_ne I.hn n) h⟩
  refine ⟨⟨e.pot, by simp [plus, I.hn.npi, lpi.symm], fun a h => ?_⟩, I.ex.trans e.kp, fun a h => plus_old (I.sub a h), fun a h => ?_, ?_, fun j d h => ?_, fun j y h yo => ?_, ?_⟩
  · rcases plus_or h with h | h
    · exact (I.hn.ext e).isS a h
    · rw [h]; exact hl'
  · rcases plus_or h with h | h
    · exact I.own0 a h
    · refine .inr ?_
      rw [h]
      cases c : H0 l with
      | none => rfl
      | some o => rw [I.ex l o lpi c] at hl; cases hl
  · rw [List.length_set, List.length_set]; exact I.len
  · rcases at_set h with ⟨rfl, hi, q⟩ | ⟨q, h⟩
    · subst q; exact hx.elim
    · obtain ⟨v, a, b⟩ := I.val j d h
      exact ⟨v, by rw [List.getElem?_set_ne q]; exact a, b.mono (e.hidden hl)⟩
  · rcases at_set h with ⟨rfl, hi, q⟩ | ⟨q, h⟩
    · subst q
      exact ⟨l, o, List.getElem?_set_self (by rw [I.len]; exact hi), plus_self, N0l, ho, hx⟩
    · obtain ⟨l', o', a, n, n0, b, c⟩ := I.own j y h yo
      exact ⟨l', o', by rw [List.getElem?_set_ne q]; exact a, plus_old n, n0, (keep n b).2, c.mono (e.hidden hl)⟩
  · -- another own thing stands elsewhere
    have other : ∀ {j : Nat} {f : Ent} {l' : Addr}, ρ[j]? = some f → f.isOwn = true → σ[j]? = some (some (.ref l')) → l' ≠ l := fun {j f l'} h1 o1 s1 => by
      obtain ⟨l2, o2, a, n, _, b, _⟩ := I.own j f h1 o1
      rw [s1] at a
      cases a
      exact (keep n b).1
    intro j k f g l' h1 h2 o1 o2 s1 s2
    rcases at_set h1 with ⟨rfl, hi, q⟩ | ⟨q, h1⟩
    · rw [List.getElem?_set_self (by rw [I.len]; exact hi)] at s1
      cases s1
      rcases at_set h2 with ⟨rfl, _, _⟩ | ⟨q2, h2⟩
      · rfl
      · rw [List.getElem?_set_ne q2] at s2
        exact absurd rfl (other h2 o2 s2)
    · rw [List.getElem?_set_ne q] at s1
      rcases at_set h2 with ⟨rfl, hi, q2⟩ | ⟨q2, h2⟩
      · rw [List.getElem?_set_self (by rw [I.len]; exact hi)] at s2
        cases s2
        exact absurd rfl (other h1 o1 s1)
      · rw [List.getElem?_set_ne q2] at s2
        exact I.inj j k f g l' h1 h2 o1 o2 s1 s2
theorem EnvOk.newAny {i : Nat} {l : Addr} {x : Ent} (I : EnvOk K P w π N0 H0 N H σ ρ) (e : Ex π H H') (hl : H l = none) (_hl' : H' l ≠ none)
    (hx : (∃ vs ds, x = .own ds ∧ H' l = some (.lst vs) ∧ RvL K P w π (Hide (plus N l) H') vs ds) ∨ (∃ xs kvs, x = .ownD kvs ∧ H' l = some (DN P w l xs) ∧ RvD K P w π (Hide (plus N l) H') xs kvs)) :
    EnvOk K P w π N0 H0 (plus N l) H' (σ.set i (some (.ref l))) (ρ.set i x) := by
  rcases hx with ⟨vs, ds, rfl, h, r⟩ | ⟨xs, kvs, rfl, h, r⟩
  · exact I.newOwn e hl h ⟨vs, rfl, r⟩
  · exact I.newOwn e hl h ⟨xs, rfl, r⟩
/-- an own thing changes -/
theorem EnvOk.upOwn {i : Nat} {l : Addr} {x y : Ent} {o : HO} (I : EnvOk K P w π N0 H0 N H σ ρ) (hi : ρ[i]? = some y) (hy : y.isOwn = true) (hs : σ[i]? = some (some (.ref l))) (nl : N l = true) (n0 : N0 l = false) (hx : OwnAt K P w π (Hide N H) l o x) :
    EnvOk K P w π N0 H0 N (upd H l o) σ (ρ.set i x) := by
  have lpi := N_ne I.hn nl
  have e : Hide N (upd H l o) = Hide N H := by
    funext a
    by_cases q : a = l
    · subst q; simp [Hide, nl]
    · unfold Hide; rw [upd_ne q]
  have other : ∀ {j : Nat} {f : Ent} {l' : Addr}, i ≠ j → ρ[j]? = some f → f.isOwn = true → σ[j]? = some (some (.ref l')) → l' ≠ l := fun {j f l'} ne h1 o1 s1 z => by
    subst z
    exact ne (I.inj i j y f l' hi h1 hy o1 hs s1)
  refine ⟨⟨?_, I.hn.npi, fun a h => ?_⟩, fun a u n h => ?_, I.sub, I.own0, ?_, fun j d h => ?_, fun j z h zo => ?_, ?_⟩
  · obtain ⟨x, y, q, r⟩ := I.hn.pot
    exact ⟨x, y, by rw [upd_ne lpi.symm]; exact q, r⟩
  · by_cases q : a = l
    · subst q; rw [upd_same]; exact fun z => by cases z
    · rw [upd_ne q]; exact I.hn.isS a h
  · by_cases q : a = l
    · subst q
      rcases I.own0 a nl with z | z
      · rw [n0] at z; cases z
      · rw [z] at h; cases h
    · rw [upd_ne q]; exact I.ex a u n h
  · rw [List.length_set]; exact I.len
  · rw [e]
    rcases at_set h with ⟨rfl, _, q⟩ | ⟨q, h⟩
    · subst q; exact hx.elim
    · exact I.val j d h
  · rw [e]
    rcases at_set h with ⟨rfl, _, q⟩ | ⟨q, h⟩
    · subst q
      exact ⟨l, o, hs, nl, n0, upd_same, hx⟩
    · obtain ⟨l', o', a, n, n0, b, c⟩ := I.own j z h zo
      exact ⟨l', o', a, n, n0, by rw [upd_ne (other q h zo a)]; exact b, c⟩
  · intro j k f g l' h1 h2 o1 o2 s1 s2
    have back : ∀ {j : Nat} {f : Ent}, (ρ.set i x)[j]? = some f → f.isOwn = true → ∃ f', ρ[j]? = some f' ∧ f'.isOwn = true := fun {j f} h o1 => by
      rcases at_set h with ⟨rfl, _, _⟩ | ⟨_, h⟩
      · exact ⟨y, hi, hy⟩
      · exact ⟨f, h, o1⟩
    obtain ⟨f', a1, b1⟩ := back h1 o1
    obtain ⟨g', a2, b2⟩ := back h2 o2
    exact I.inj j k f' g' l' a1 a2 b1 b2 s1 s2
theorem EnvOk.upAny {i : Nat} {l : Addr} {x y : Ent} {o : HO} (I : EnvOk K P w π N0 H0 N H σ ρ) (hi : ρ[i]? = some y) (hy : y.isOwn = true) (hs : σ[i]? = some (some (.ref l))) (nl : N l = true) (n0 : N0 l = false)
    (hx : (∃ vs ds, x = .own ds ∧ o = .lst vs ∧ RvL K P w π (Hide N H) vs ds) ∨ (∃ xs kvs, x = .ownD kvs ∧ o = DN P w l xs ∧ RvD K P w π (Hide N H) xs kvs)) :
    EnvOk K P w π N0 H0 N (upd H l o) σ (ρ.set i x) := by
  rcases hx with ⟨vs, ds, rfl, h, r⟩ | ⟨xs, kvs, rfl, h, r⟩
  · exact I.upOwn hi hy hs nl n0 ⟨vs, h, r⟩
  · exact I.upOwn hi hy hs nl n0 ⟨xs, h, r⟩
/-- an own list, an own instance is a value from now on -/
theorem EnvOk.freezeAny {i : Nat} {y : Ent} {d : D} (I : EnvOk K P w π N0 H0 N H σ ρ) (hi : ρ[i]? = some y) (hy : (∃ ds, y = .own ds ∧ d = .lst ds) ∨ (∃ c fs, y = .ownI c fs ∧ d = .ins c fs)) :
    ∃ N', EnvOk K P w π N0 H0 N' H σ (ρ.set i (.val d)) := by
  have yo : y.isOwn = true := by rcases hy with ⟨_, rfl, _⟩ | ⟨_, _, rfl, _⟩ <;> rfl
  obtain ⟨l, o, hs, nl, n0, hb, hc⟩ := I.own i y hi yo
  have lpi := N_ne I.hn nl
  have k : Kp π (Hide N H) (Hide (minus N l) H) := Kp.less fun a h => (minus_in h).1
  have other : ∀ {j : Nat} {f : Ent} {l' : Addr}, i ≠ j → ρ[j]? = some f → f.isOwn = true → σ[j]? = some (some (.ref l')) → l' ≠ l := fun {j f l'} ne h1 o1 s1 z => by
    subst z
    exact ne (I.inj i j _ f l' hi h1 yo o1 hs s1)
  refine ⟨minus N l, ⟨I.hn.pot, ?_, fun a h => I.hn.isS a (minus_in h).1⟩, I.ex, fun a h => ?_, fun a h => I.own0 a (minus_in h).1, by rw [List.length_set]; exact I.len, fun j e h => ?_, fun j x h xo => ?_, ?_⟩
  · simp [minus, I.hn.npi]
  · exact minus_of (I.sub a h) fun z => by rw [z, n0] at h; cases h
  · rcases at_set h with ⟨rfl, _, q⟩ | ⟨q, h⟩
    · cases q
      refine ⟨.ref l, hs, ?_⟩
      rcases hy with ⟨ds, rfl, rfl⟩ | ⟨c, fs, rfl, rfl⟩
      · obtain ⟨vs, rfl, r⟩ := hc
        exact .lst (by rw [hide_in minus_self]; exact hb) lpi (r.mono k)
      · obtain ⟨C, dx, vs, rfl, cc, r⟩ := hc
        exact .ins cc (by rw [hide_in minus_self]; exact hb) lpi (r.mono k)
    · obtain ⟨v, a, b⟩ := I.val j e h
      exact ⟨v, a, b.mono k⟩
  · rcases at_set h with ⟨rfl, _, q⟩ | ⟨q, h⟩
    · subst q; cases xo
    · obtain ⟨l', o', a, n, m0, b, c⟩ := I.own j x h xo
      exact ⟨l', o', a, minus_of n (other q h xo a), m0, b, c.mono k⟩
  · intro j k f g l' h1 h2 o1 o2 s1 s2
    rcases at_set h1 with ⟨rfl, _, q⟩ | ⟨_, h1⟩
    · subst q; cases o1
    · rcases at_set h2 with ⟨rfl, _, q⟩ | ⟨_, h2⟩
      · subst q; cases o2
      · exact I.inj j k f g l' h1 h2 o1 o2 s1 s2
theorem EnvOk.freeze {i : Nat} {ds : List D} (I : EnvOk K P w π N0 H0 N H σ ρ) (hi : ρ[i]? = some (.own ds)) : ∃ N', EnvOk K P w π N0 H0 N' H σ (ρ.set i (.val (.lst ds))) := I.freezeAny hi (.inl ⟨ds, rfl, rfl⟩)
/-- an own dict is a value from now on: locked -/
theorem EnvOk.freezeD {i : Nat} {kvs : List (D × D)} (I : EnvOk K P w π N0 H0 N H σ ρ) (hi : ρ[i]? = some (.ownD kvs)) :
    ∃ l xs N', H l = some (DN P w l xs) ∧ ∀ od, EnvOk K P w π N0 H0 N' (upd H l (.frz od (DN P w l xs))) σ (ρ.set i (.val (.dic kvs))) := by
  obtain ⟨l, xs, hs, nl, n0, hb, hc⟩ := I.dic i kvs hi
  have lpi := N_ne I.hn nl
  refine ⟨l, xs, minus N l, hb, fun od => ?_⟩
  have k : Kp π (Hide N H) (Hide (minus N l) (upd H l (.frz od (DN P w l xs)))) := fun a o n h => by
    obtain ⟨na, ha⟩ := hide_some h
    have ne : a ≠ l := fun z => by rw [z, nl] at na; cases na
    rw [hide_in (by simp [minus, na]), upd_ne ne]
    exact ha
  have other : ∀ {j : Nat} {f : Ent} {l' : Addr}, i ≠ j → ρ[j]? = some f → f.isOwn = true → σ[j]? = some (some (.ref l')) → l' ≠ l := fun {j f l'} ne h1 o1 s1 z => by
    subst z
    exact ne (I.inj i j _ f l' hi h1 rfl o1 hs s1)
  refine ⟨⟨?_, ?_, fun a h => ?_⟩, fun a u n h => ?_, fun a h => ?_, fun a h => I.own0 a (minus_in h).1, by rw [List.length_set]; exact I.len, fun j e h => ?_, fun j x h xo => ?_, ?_⟩
  · obtain ⟨x, y, q, r⟩ := I.hn.pot
    exact ⟨x, y, by rw [upd_ne lpi.symm]; exact q, r⟩
  · simp [minus, I.hn.npi]
  · rw [upd_ne (minus_in h).2]; exact I.hn.isS a (minus_in h).1
  · by_cases q : a = l
    · subst q
      rcases I.own0 a nl with z | z
      · rw [n0] at z; cases z
      · rw [z] at h; cases h
    · rw [upd_ne q]; exact I.ex a u n h
  · exact minus_of (I.sub a h) fun z => by rw [z, n0] at h; cases h
  · rcases at_set h with ⟨rfl, _, q⟩ | ⟨q, h⟩
    · cases q
      exact ⟨.ref l, hs, .dic (by rw [hide_in minus_self, upd_same]) lpi (hc.mono k)⟩
    · obtain ⟨v, a, b⟩ := I.val j e h
      exact ⟨v, a, b.mono k⟩
  · rcases at_set h with ⟨rfl, _, q⟩ | ⟨q, h⟩
    · subst q; cases xo
    · obtain ⟨l', o', a, n, m0, b, c⟩ := I.own j x h xo
      exact ⟨l', o', a, minus_of n (other q h xo a), m0, by rw [upd_ne (other q h xo a)]; exact b, c.mono k⟩
  · intro j k f g l' h1 h2 o1 o2 s1 s2
    rcases at_set h1 with ⟨rfl, _, q⟩ | ⟨_, h1⟩
    · subst q; cases o1
    · rcases at_set h2 with ⟨rfl, _, q⟩ | ⟨_, h2⟩
      · subst q; cases o2
      · exact I.inj j k f g l' h1 h2 o1 o2 s1 s2
/-- a name without a value -/
theorem EnvOk.wipe1 {i : Nat} (I : EnvOk K P w π N0 H0 N H σ ρ) : EnvOk K P w π N0 H0 N H (σ.set i none) (ρ.set i .un) := by
  refine ⟨I.hn, I.ex, I.sub, I.own0, by rw [List.length_set, List.length_set]; exact I.len, fun j d h => ?_, fun j d h xo => ?_, fun j k f g l h1 h2 o1 o2 s1 s2 => ?_⟩
  · rcases at_set h with ⟨rfl, _, q⟩ | ⟨q, h⟩
    · cases q
    · rw [List.getElem?_set_ne q]; exact I.val j d h
  · rcases at_set h with ⟨rfl, _, q⟩ | ⟨q, h⟩
    · subst q; cases xo
    · rw [List.getElem?_set_ne q]; exact I.own j d h xo
  · rcases at_set h1 with ⟨rfl, _, q⟩ | ⟨q, h1⟩
    · subst q; cases o1
    · rcases at_set h2 with ⟨rfl, _, q2⟩ | ⟨q2, h2⟩
      · subst q2; cases o2
      · rw [List.getElem?_set_ne q] at s1
        rw [List.getElem?_set_ne q2] at s2
        exact I.inj j k f g l h1 h2 o1 o2 s1 s2
/-! what stays through a loop -/
def baseOf (N0 N : Addr → Bool) (H : Hp) : Hp := fun a => if (N a && !N0 a) = true then none else H a
theorem base_some {a : Addr} {o : HO} (h : baseOf N0 N H a = some o) : (N a = false ∨ N0 a = true) ∧ H a = some o := by
  unfold baseOf at h
  by_cases c : (N a && !N0 a) = true
  · rw [if_pos c] at h; cases h
  · rw [if_neg c] at h
    refine ⟨?_, h⟩
    cases h1 : N a with
    | false => exact .inl rfl
    | true =>
      cases h2 : N0 a with
      | true => exact .inr rfl
      | false => rw [h1, h2] at c; exact absurd rfl c
theorem base_in {a : Addr} (h : N a = false ∨ N0 a = true) : baseOf N0 N H a = H a := by
  unfold baseOf
  rw [if_neg]
  rcases h with h | h <;> simp [h]
theorem EnvOk.rebase (I : EnvOk K P w π N0 H0 N H σ ρ) : EnvOk K P w π N0 (baseOf N0 N H) N H σ ρ where
  hn := I.hn
  ex := fun a o _ h => (base_some h).2
  sub := I.sub
  own0 := fun a h => by
    cases c : N0 a with
    | true => exact .inl rfl
    | false =>
      refine .inr ?_
      unfold baseOf
      rw [if_pos (by simp [h, c])]
  len := I.len
  val := I.val
  own := I.own
  inj := I.inj
theorem EnvOk.base_kp (I : EnvOk K P w π N0 H0 N H σ ρ) : Kp π H0 (baseOf N0 N H) := fun a o n h => by
  rw [base_in ?_]
  · exact I.ex a o n h
  · cases c : N a with
    | false => exact .inl rfl
    | true =>
      rcases I.own0 a c with z | z
      · exact .inr z
      · rw [z] at h; cases h
theorem EnvOk.unbase (I : EnvOk K P w π N0 H0 N H σ ρ) (J : EnvOk K P w π N0 (baseOf N0 N H) N' H' σ' ρ') : EnvOk K P w π N0 H0 N' H' σ' ρ' where
  hn := J.hn
  ex := I.base_kp.trans J.ex
  sub := J.sub
  own0 := fun a h => by
    rcases J.own0 a h with z | z
    · exact .inl z
    · refine .inr ?_
      cases c : H0 a with
      | none => rfl
      | some o =>
        by_cases q : a = π
        · rw [q, J.hn.npi] at h; cases h
        · rw [I.base_kp a o q c] at z; cases z
  len := J.len
  val := J.val
  own := J.own
  inj := J.inj
theorem EnvOk.seen (I : EnvOk K P w π N0 H0 N H σ ρ) (J : EnvOk K P w π N0 (baseOf N0 N H) N' H' σ' ρ') : Kp π (Hide N H) (Hide N' H') := fun a o n h => by
  obtain ⟨na, ha⟩ := hide_some h
  have b : baseOf N0 N H a = some o := by rw [base_in (.inl na)]; exact ha
  have h1 := J.ex a o n b
  have n' : N' a = false := by
    cases c : N' a with
    | false => rfl
    | true =>
      rcases J.own0 a c with z | z
      · rw [I.sub a z] at na; cases na
      · rw [b] at z; cases z
  rw [hide_in n']
  exact h1
end

/-! ### the weakest reading of each piece -/
section
variable {X : Cx}
def wpE (X : Cx) (e : Expr) : TE := fun σ H Q => ∃ te, PE X e te ∧ te σ H Q
theorem pe_wp {e : Expr} : PE X e (wpE X e) := ⟨fun pins s σ H Q I ⟨_, h, q⟩ => h.run pins s σ H Q I q⟩
def wpT (X : Cx) (e : Expr) : TT := fun σ H Q => ∃ te, PT X e te ∧ te σ H Q
theorem pt_wp {e : Expr} : PT X e (wpT X e) := ⟨fun pins s σ H Q I ⟨_, h, q⟩ => h.run pins s σ H Q I q⟩
def wpW (X : Cx) (e : Expr) : TT := fun σ H Q => ∃ te, PW X e te ∧ te σ H Q
theorem pw_wp {e : Expr} : PW X e (wpW X e) := ⟨fun wh pins s σ H Q I ⟨_, h, q⟩ => h.run wh pins s σ H Q I q⟩
def wpA (X : Cx) (es : List Expr) : TA := fun σ H Q => ∃ te, PA X es te ∧ te σ H Q
theorem pa_wp {es : List Expr} : PA X es (wpA X es) := ⟨fun pos pins s σ H Q I ⟨_, h, q⟩ => h.run pos pins s σ H Q I q⟩
def wpS (X : Cx) (st : Stmt) : TS := fun De σ H => ∃ te, PS X st te ∧ te De σ H
theorem ps_wp {st : Stmt} : PS X st (wpS X st) := ⟨fun pins s σ H De I ⟨_, h, q⟩ => h.run pins s σ H De I q⟩
def wpSs (X : Cx) (st : List Stmt) : TS := fun De σ H => ∃ te, PSs X st te ∧ te De σ H
theorem pss_wp {st : List Stmt} : PSs X st (wpSs X st) := ⟨fun pins s σ H De I ⟨_, h, q⟩ => h.run pins s σ H De I q⟩
def wpG (X : Cx) (e : Expr) : TG := fun v σ H Q => ∃ t, PG X e t ∧ t v σ H Q
theorem pg_wp {e : Expr} : PG X e (wpG X e) := ⟨fun pins s σ H v u Q I r ⟨_, h, q⟩ => h.run pins s σ H v u Q I r q⟩
def wpI (X : Cx) (tg e : Expr) : TI := fun σ H R => ∃ t, PI X tg e t ∧ t σ H R
theorem pi_wp {tg e : Expr} : PI X tg e (wpI X tg e) := ⟨fun pins s σ H R I ⟨_, h, q⟩ => h.run pins s σ H R I q⟩
def wpOp (X : Cx) (f : Value → Value → Sem Value) : R2 := fun x y H Q => ∃ r, OpR X f r ∧ r x y H Q
theorem op_wp {f : Value → Value → Sem Value} : OpR X f (wpOp X f) := fun pins s σ H x y v u Q I rx ry ⟨_, h, q⟩ => h pins s σ H x y v u Q I rx ry q
def wpUn (X : Cx) (f : Value → Sem Value) : V → Hp → VK → Prop := fun x H Q => ∃ r, UnR X f r ∧ r x H Q
theorem un_wp {f : Value → Sem Value} : UnR X f (wpUn X f) := fun pins s σ H x v Q I rx ⟨_, h, q⟩ => h pins s σ H x v Q I rx q
def wpCa (X : Cx) (f : Value) : List V → Hp → VK → Prop := fun xs H Q => ∃ r, CallR X f r ∧ r xs H Q
theorem ca_wp {f : Value} : CallR X f (wpCa X f) := fun pins s σ H xs us Q I rx ⟨_, h, q⟩ => h pins s σ H xs us Q I rx q
end
end Pd

namespace Pd
open PySem L2

/-! ### sound readings -/
section
variable (X : Cx)
/-- what is wanted of a value that a piece hands on -/
def Kd (π : Addr) (N : Addr → Bool) (H : Hp) (Q : VK) : D → Prop := fun d => ∀ v H2, Ex π H H2 → Rv X.K X.prog X.w π (Hide N H2) v d → Q v H2
def Kl (π : Addr) (N : Addr → Bool) (H : Hp) (Q : VK) : List D → Prop := fun ds => ∀ l vs H2, Ex π H H2 → H l = none → H2 l = some (.lst vs) → RvL X.K X.prog X.w π (Hide (plus N l) H2) vs ds → Q (.ref l) H2
def Ka (π : Addr) (N : Addr → Bool) (H : Hp) (Q : List V → Hp → Prop) : List D → Prop := fun ds => ∀ vs H2, Ex π H H2 → RvL X.K X.prog X.w π (Hide N H2) vs ds → Q vs H2
def Snd (e : Expr) (m : Rho → T D) : Prop := ∀ ⦃π : Addr⦄ ⦃N0 : Addr → Bool⦄ ⦃H0 : Hp⦄ ⦃N : Addr → Bool⦄ ⦃H : Hp⦄ ⦃σ : L2.St⦄ ⦃ρ : Rho⦄ ⦃Q : VK⦄, EnvOk X.K X.prog X.w π N0 H0 N H σ ρ → (m ρ).all (Kd X π N H Q) → wpE X e σ H Q
/-- a new list -/
def SndL (e : Expr) (m : Rho → T (List D)) : Prop := ∀ ⦃π : Addr⦄ ⦃N0 : Addr → Bool⦄ ⦃H0 : Hp⦄ ⦃N : Addr → Bool⦄ ⦃H : Hp⦄ ⦃σ : L2.St⦄ ⦃ρ : Rho⦄ ⦃Q : VK⦄, EnvOk X.K X.prog X.w π N0 H0 N H σ ρ → (m ρ).all (Kl X π N H Q) → wpE X e σ H Q
def SndA (es : List Expr) (m : Rho → T (List D)) : Prop := ∀ ⦃π : Addr⦄ ⦃N0 : Addr → Bool⦄ ⦃H0 : Hp⦄ ⦃N : Addr → Bool⦄ ⦃H : Hp⦄ ⦃σ : L2.St⦄ ⦃ρ : Rho⦄ ⦃Q : List V → Hp → Prop⦄, EnvOk X.K X.prog X.w π N0 H0 N H σ ρ → (m ρ).all (Ka X π N H Q) → wpA X es σ H Q
def SndT (e : Expr) (m : Rho → T Bool) : Prop := ∀ ⦃π : Addr⦄ ⦃N0 : Addr → Bool⦄ ⦃H0 : Hp⦄ ⦃N : Addr → Bool⦄ ⦃H : Hp⦄ ⦃σ : L2.St⦄ ⦃ρ : Rho⦄ ⦃Q : Bool → Hp → Prop⦄, EnvOk X.K X.prog X.w π N0 H0 N H σ ρ → (m ρ).all (fun b => ∀ H2, Ex π H H2 → Q b H2) → wpT X e σ H Q
def SndW (e : Expr) (m : Rho → T Bool) : Prop := ∀ ⦃π : Addr⦄ ⦃N0 : Addr → Bool⦄ ⦃H0 : Hp⦄ ⦃N : Addr → Bool⦄ ⦃H : Hp⦄ ⦃σ : L2.St⦄ ⦃ρ : Rho⦄ ⦃Q : Bool → Hp → Prop⦄, EnvOk X.K X.prog X.w π N0 H0 N H σ ρ → (m ρ).all (fun b => ∀ H2, Ex π H H2 → Q b H2) → wpW X e σ H Q
def OpSnd (f : Value → Value → Sem Value) (m : D → D → T D) : Prop := ∀ ⦃π : Addr⦄ ⦃N : Addr → Bool⦄ ⦃H : Hp⦄ ⦃x y : V⦄ ⦃dx dy : D⦄ ⦃Q : VK⦄, HN π N H → Rv X.K X.prog X.w π (Hide N H) x dx → Rv X.K X.prog X.w π (Hide N H) y dy → (m dx dy).all (Kd X π N H Q) → wpOp X f x y H Q
def CaSnd (f : Value) (m : List D → T D) : Prop := ∀ ⦃π : Addr⦄ ⦃N : Addr → Bool⦄ ⦃H : Hp⦄ ⦃xs : List V⦄ ⦃ds : List D⦄ ⦃Q : VK⦄, HN π N H → RvL X.K X.prog X.w π (Hide N H) xs ds → (m ds).all (Kd X π N H Q) → wpCa X f xs H Q
def CaSndL (f : Value) (m : List D → T (List D)) : Prop := ∀ ⦃π : Addr⦄ ⦃N : Addr → Bool⦄ ⦃H : Hp⦄ ⦃xs : List V⦄ ⦃ds : List D⦄ ⦃Q : VK⦄, HN π N H → RvL X.K X.prog X.w π (Hide N H) xs ds → (m ds).all (Kl X π N H Q) → wpCa X f xs H Q
end

section
variable {X : Cx} {a b c e : Expr} {es : List Expr} {ma mb m : Rho → T D} {mt mu : Rho → T Bool} {pos : Pos}
theorem Kd.up {π : Addr} {N : Addr → Bool} {H H1 : Hp} {Q : VK} {d : D} (e : Ex π H H1) (h : Kd X π N H Q d) : Kd X π N H1 Q d := fun v H2 e2 r => h v H2 (e.trans e2) r
theorem Kl.up {π : Addr} {N : Addr → Bool} {H H1 : Hp} {Q : VK} {ds : List D} (e : Ex π H H1) (h : Kl X π N H Q ds) (pt : PotOk H π) : Kl X π N H1 Q ds := fun l vs H2 e2 n1 h2 r => h l vs H2 (e.trans e2) (by
  cases c : H l with
  | none => rfl
  | some o =>
    by_cases q : l = π
    · subst q
      exact absurd n1 (fun z => (e.pot.ne z) rfl)
    · rw [e.kp l o q c] at n1; cases n1) h2 r
theorem Ka.up {π : Addr} {N : Addr → Bool} {H H1 : Hp} {Q : List V → Hp → Prop} {ds : List D} (e : Ex π H H1) (h : Ka X π N H Q ds) : Ka X π N H1 Q ds := fun v H2 e2 r => h v H2 (e.trans e2) r

def eVar (i : Nat) : Rho → T D := fun ρ => match ρ[i]? with
  | some (.val d) => .ret d
  | _ => .fail
def eC (d : D) : Rho → T D := fun _ => .ret d
def eBin (f : D → D → T D) (ma mb : Rho → T D) : Rho → T D := fun ρ => (ma ρ).bind fun x => (mb ρ).bind fun y => f x y
def asB : D → T Bool
  | .bl b => .ret b
  | _ => .fail
def eTest (m : Rho → T D) : Rho → T Bool := fun ρ => (m ρ).bind asB
def tAnd' (mt mu : Rho → T Bool) : Rho → T Bool := fun ρ => (mt ρ).bind fun b => cond b (mu ρ) (.ret false)
def tOr' (mt mu : Rho → T Bool) : Rho → T Bool := fun ρ => (mt ρ).bind fun b => cond b (.ret true) (mu ρ)
def tNot' (mt : Rho → T Bool) : Rho → T Bool := fun ρ => (mt ρ).bind fun b => .ret (!b)
def eAnd (ma mb : Rho → T D) : Rho → T D := fun ρ => (ma ρ).bind fun d => (asB d).bind fun b => cond b (mb ρ) (.ret (.bl false))
def eOr (ma mb : Rho → T D) : Rho → T D := fun ρ => (ma ρ).bind fun d => (asB d).bind fun b => cond b (.ret (.bl true)) (mb ρ)
def eNot (ma : Rho → T D) : Rho → T D := fun ρ => (ma ρ).bind fun d => (asB d).bind fun b => .ret (.bl (!b))
def eIf (mt : Rho → T Bool) (ma mb : Rho → T D) : Rho → T D := fun ρ => (mt ρ).bind fun b => cond b (ma ρ) (mb ρ)
def aNil : Rho → T (List D) := fun _ => .ret []
def aCons (ma : Rho → T D) (ms : Rho → T (List D)) : Rho → T (List D) := fun ρ => (ma ρ).bind fun d => (ms ρ).bind fun ds => .ret (d :: ds)
def small (ds : List D) : Bool := decide (ds.length ≤ 100000)
def eTup (ms : Rho → T (List D)) : Rho → T D := fun ρ => (ms ρ).bind fun ds => cond (small ds) (.ret (.tup ds)) .fail
def lLst (ms : Rho → T (List D)) : Rho → T (List D) := fun ρ => (ms ρ).bind fun ds => cond (small ds) (.ret ds) .fail
def eL (ml : Rho → T (List D)) : Rho → T D := fun ρ => (ml ρ).bind fun ds => .ret (.lst ds)
def eCall (n : Nat) (F : List D → T D) (ms : Rho → T (List D)) : Rho → T D := fun ρ => (ms ρ).bind fun ds => cond (ds.length == n) (F ds) .fail
def eCa (f : List D → T D) (ms : Rho → T (List D)) : Rho → T D := fun ρ => (ms ρ).bind f
def lCa (f : List D → T (List D)) (ms : Rho → T (List D)) : Rho → T (List D) := fun ρ => (ms ρ).bind f

theorem asB_all {P : Bool → Prop} {d : D} (h : (asB d).all P) : ∃ b, d = .bl b ∧ P b := by
  cases d <;> first | exact ⟨_, rfl, h⟩ | exact False.elim h
theorem Rv.bool {K : PySem.W.Frag} {P : Program} {w : World} {π : Addr} {H : Hp} {v : V} {b : Bool} (r : Rv K P w π H v (.bl b)) : v = .bl b := by cases r; rfl
theorem Rv.intE {K : PySem.W.Frag} {P : Program} {w : World} {π : Addr} {H : Hp} {v : V} {i : Int} (r : Rv K P w π H v (.int i)) : v = .int i := by cases r; rfl
theorem Rv.tupE {K : PySem.W.Frag} {P : Program} {w : World} {π : Addr} {N : Addr → Bool} {H : Hp} {v : V} {ds : List D} (r : Rv K P w π (Hide N H) v (.tup ds)) : ∃ a vs, v = .ref a ∧ SqT K H a vs ∧ RvL K P w π (Hide N H) vs ds := by
  cases r with
  | tup h n r => exact ⟨_, _, rfl, .inl (.inl (hide_some h).2), r⟩
  | tupK h r => exact ⟨_, _, rfl, h _, r⟩
theorem Rv.lstE {K : PySem.W.Frag} {P : Program} {w : World} {π : Addr} {N : Addr → Bool} {H : Hp} {v : V} {ds : List D} (r : Rv K P w π (Hide N H) v (.lst ds)) : ∃ a vs, v = .ref a ∧ H a = some (.lst vs) ∧ N a = false ∧ a ≠ π ∧ RvL K P w π (Hide N H) vs ds := by
  cases r with
  | lst h n r => exact ⟨_, _, rfl, (hide_some h).2, (hide_some h).1, n, r⟩

theorem sv (i : Nat) {x : Str} {pos : Pos} (hN : X.N[i]? = some x := by rfl) (hv : Vis X.env.scope x := by first | exact Or.inl rfl | exact Or.inr (Or.inl rfl) | exact Or.inr (Or.inr rfl)) (hd : (x == ("__debug__" : Str)) = false := by decide)
    (hcd : (x == ("__classdict__" : Str)) = false := by decide) : Snd X (.Name x pos) (eVar i) := fun {π N0 H0 N H σ ρ Q} I h => by
  unfold eVar at h
  split at h
  · obtain ⟨v, hs, r⟩ := I.val i _ (by assumption)
    exact ⟨_, pe_var hN hv hd hcd, v, hs, h v H (Ex.refl I.hn.pot) r⟩
  · exact False.elim h
theorem s_int {i j} : Snd X (.Constant (.int i) j pos) (eC (.int i)) := fun {_ _ _ _ _ _ _ _} I h => ⟨_, pe_int, h _ _ (Ex.refl I.hn.pot) (.int i)⟩
theorem s_bl {b j} : Snd X (.Constant (.bool b) j pos) (eC (.bl b)) := fun {_ _ _ _ _ _ _ _} I h => ⟨_, pe_bl, h _ _ (Ex.refl I.hn.pot) (.bl b)⟩
theorem s_non {j} : Snd X (.Constant .none j pos) (eC .non) := fun {_ _ _ _ _ _ _ _} I h => ⟨_, pe_non, h _ _ (Ex.refl I.hn.pot) .non⟩
theorem s_str {x j} : Snd X (.Constant (.str x) j pos) (eC (.str x)) := fun {_ _ _ _ _ _ _ _} I h => ⟨_, pe_str, h _ _ (Ex.refl I.hn.pot) (.str x)⟩
/-- a constant of the module -/
theorem s_glob {x : Str} {v : V} {u : Value} {d : D} (hg : Gl X x) (hm : X.mg x = some u) (r : RelV v u) (rv : ∀ π H, Rv X.K X.prog X.w π H v d) (hd : (x == ("__debug__" : Str)) = false := by decide) : Snd X (.Name x pos) (eC d) := fun {_ _ _ _ _ _ _ _} I h => ⟨_, pe_glob hg hm r hd, h _ _ (Ex.refl I.hn.pot) (rv _ _)⟩

theorem two {f : D → D → T D} {g : Value → Value → Sem Value} (ho : OpSnd X g f) (ha : Snd X a ma) (hb : Snd X b mb) {π : Addr} {N0 : Addr → Bool} {H0 : Hp} {N : Addr → Bool} {H : Hp} {σ : L2.St} {ρ : Rho} {Q : VK}
    (I : EnvOk X.K X.prog X.w π N0 H0 N H σ ρ) (h : (eBin f ma mb ρ).all (Kd X π N H Q)) : tOp (wpOp X g) (wpE X a) (wpE X b) σ H Q := by
  refine ha I (T.all_mono (fun dx hx => ?_) (T.all_bind.mp h))
  intro v H1 e1 r1
  refine hb (I.ext e1) (T.all_mono (fun dy hy => ?_) (T.all_bind.mp hx))
  intro u H2 e2 r2
  exact ho (I.hn.ext (e1.trans e2)) (r1.mono e2.kp.hide) r2 (T.all_mono (fun _ hd => hd.up (e1.trans e2)) hy)
theorem s_bin {op : Operator} {f : D → D → T D} (ho : OpSnd X (binaryOp op) f) (ha : Snd X a ma) (hb : Snd X b mb) : Snd X (.BinOp a op b pos) (eBin f ma mb) := fun {_ _ _ _ _ _ _ _} I h => ⟨_, pe_op op_wp pe_wp pe_wp, two ho ha hb I h⟩
theorem s_cmp {op : CmpOp} {f : D → D → T D} (ho : OpSnd X (compareOp op) f) (ha : Snd X a ma) (hb : Snd X b mb) (hm : behindInMarks op b = false) : Snd X (.Compare a [op] [b] pos) (eBin f ma mb) := fun {_ _ _ _ _ _ _ _} I h => ⟨_, pe_cmpR op_wp pe_wp pe_wp hm, two ho ha hb I h⟩
theorem Kd.test {π : Addr} {N : Addr → Bool} {H : Hp} {Q : Bool → Hp → Prop} {d : D} (h : (asB d).all fun b => ∀ H2, Ex π H H2 → Q b H2) : Kd X π N H (fun x H' => ∃ k, x = .bl k ∧ Q k H') d := fun v H2 e r => by
  obtain ⟨b, rfl, q⟩ := asB_all h
  exact ⟨b, r.bool, q H2 e⟩
theorem st_cmp {op : CmpOp} {f : D → D → T D} (ho : OpSnd X (compareOp op) f) (ha : Snd X a ma) (hb : Snd X b mb) (hm : behindInMarks op b = false) : SndT X (.Compare a [op] [b] pos) (eTest (eBin f ma mb)) := fun {_ _ _ _ _ _ _ _} I h =>
  ⟨_, pt_cmpR op_wp pe_wp pe_wp hm, two ho ha hb I (T.all_mono (fun _ h => Kd.test h) (T.all_bind.mp h))⟩
theorem st_val (ha : Snd X a m) (he : ∀ whole, isTrue a X.env whole = (do let v ← whole; standAt a.pos; holding [v] (truthy v)) := by intro _; rfl) : SndT X a (eTest m) := fun {_ _ _ _ _ _ _ _} I h =>
  ⟨_, pt_val pe_wp he, ha I (T.all_mono (fun _ h => Kd.test h) (T.all_bind.mp h))⟩
theorem st_not (ha : SndT X a mt) : SndT X (.UnaryOp .Not a pos) (tNot' mt) := fun {_ _ _ _ _ _ _ _} I h => ⟨_, pt_not pt_wp, ha I (T.all_bind.mp h)⟩
theorem sw_and1 (ha : SndT X a mt) : SndW X (.BoolOp .And [a] pos) mt := fun {_ _ _ _ _ _ _ _} I h => ⟨_, pw_and1 pt_wp, ha I h⟩
theorem sw_or1 (ha : SndT X a mt) : SndW X (.BoolOp .Or [a] pos) mt := fun {_ _ _ _ _ _ _ _} I h => ⟨_, pw_or1 pt_wp, ha I h⟩
theorem sw_and {rest : List Expr} (ha : SndT X a mt) (hb : SndW X (.BoolOp .And (b :: rest) pos) mu) : SndW X (.BoolOp .And (a :: b :: rest) pos) (tAnd' mt mu) := fun {_ _ _ _ _ _ _ _} I h =>
  ⟨_, pw_and pt_wp pw_wp, ha I (T.all_mono (fun k hk H2 e => by
    cases k with
    | true => exact iteT (hb (I.ext e) (T.all_mono (fun _ q H3 e3 => q H3 (e.trans e3)) hk))
    | false => exact iteF (hk H2 e)) (T.all_bind.mp h))⟩
theorem sw_or {rest : List Expr} (ha : SndT X a mt) (hb : SndW X (.BoolOp .Or (b :: rest) pos) mu) : SndW X (.BoolOp .Or (a :: b :: rest) pos) (tOr' mt mu) := fun {_ _ _ _ _ _ _ _} I h =>
  ⟨_, pw_or pt_wp pw_wp, ha I (T.all_mono (fun k hk H2 e => by
    cases k with
    | true => exact iteT (hk H2 e)
    | false => exact iteF (hb (I.ext e) (T.all_mono (fun _ q H3 e3 => q H3 (e.trans e3)) hk))) (T.all_bind.mp h))⟩
theorem st_w (h : SndW X a mt) : SndT X a mt := fun {_ _ _ _ _ _ _ _} I q => ⟨_, pw_wp.pt, h I q⟩
theorem s_one {op} (ha : Snd X a m) : Snd X (.BoolOp op [a] pos) m := fun {_ _ _ _ _ _ _ _} I h => ⟨_, pe_one pe_wp, ha I h⟩
theorem s_and {rest : List Expr} (ha : Snd X a ma) (hb : Snd X (.BoolOp .And (b :: rest) pos) mb) : Snd X (.BoolOp .And (a :: b :: rest) pos) (eAnd ma mb) := fun {_ _ _ _ _ _ _ _} I h =>
  ⟨_, pe_and pe_wp pe_wp, ha I (T.all_mono (fun d hd v H2 e r => by
    obtain ⟨k, rfl, q⟩ := asB_all (T.all_bind.mp hd)
    refine ⟨k, r.bool, ?_⟩
    cases k with
    | true => exact iteT (hb (I.ext e) (T.all_mono (fun _ q => q.up e) q))
    | false => exact iteF (q _ H2 e (.bl false))) (T.all_bind.mp h))⟩
theorem s_or {rest : List Expr} (ha : Snd X a ma) (hb : Snd X (.BoolOp .Or (b :: rest) pos) mb) : Snd X (.BoolOp .Or (a :: b :: rest) pos) (eOr ma mb) := fun {_ _ _ _ _ _ _ _} I h =>
  ⟨_, pe_or pe_wp pe_wp, ha I (T.all_mono (fun d hd v H2 e r => by
    obtain ⟨k, rfl, q⟩ := asB_all (T.all_bind.mp hd)
    refine ⟨k, r.bool, ?_⟩
    cases k with
    | true => exact iteT (q _ H2 e (.bl true))
    | false => exact iteF (hb (I.ext e) (T.all_mono (fun _ q => q.up e) q))) (T.all_bind.mp h))⟩
theorem s_not (ha : Snd X a ma) : Snd X (.UnaryOp .Not a pos) (eNot ma) := fun {_ _ _ _ _ _ _ _} I h =>
  ⟨_, pe_not pe_wp, ha I (T.all_mono (fun d hd v H2 e r => by
    obtain ⟨k, rfl, q⟩ := asB_all (T.all_bind.mp hd)
    exact ⟨k, r.bool, q _ H2 e (.bl _)⟩) (T.all_bind.mp h))⟩
theorem s_if (hc : SndT X c mt) (ha : Snd X a ma) (hb : Snd X b mb) : Snd X (.IfExp c a b pos) (eIf mt ma mb) := fun {_ _ _ _ _ _ _ _} I h =>
  ⟨_, pe_ifExp pt_wp pe_wp pe_wp, hc I (T.all_mono (fun k hk H2 e => by
    cases k with
    | true => exact iteT (ha (I.ext e) (T.all_mono (fun _ q => q.up e) hk))
    | false => exact iteF (hb (I.ext e) (T.all_mono (fun _ q => q.up e) hk))) (T.all_bind.mp h))⟩

/-! ### argument lists, displays, calls -/
theorem sa_nil : SndA X [] aNil := fun {_ _ _ _ _ _ _ _} I h => ⟨_, pa_nil, h _ _ (Ex.refl I.hn.pot) .nil⟩
theorem sa_cons {ms : Rho → T (List D)} (ha : Snd X e m) (hr : SndA X es ms) (hs : starEach (e :: es) X.env = (false, eval e X.env) :: starEach es X.env := by rfl) : SndA X (e :: es) (aCons m ms) := fun {_ _ _ _ _ _ _ _} I h =>
  ⟨_, pa_cons pe_wp pa_wp hs, by
    refine ha I (T.all_mono (fun dx hx => ?_) (T.all_bind.mp h))
    intro v H1 e1 r1
    refine hr (I.ext e1) (T.all_mono (fun dy hy => ?_) (T.all_bind.mp hx))
    intro vs H2 e2 r2
    exact hy _ _ (e1.trans e2) (.cons (r1.mono e2.kp.hide) r2)⟩
theorem small_ok {K : PySem.W.Frag} {P : Program} {w : World} {π : Addr} {H : Hp} {vs : List V} {ds : List D} (r : RvL K P w π H vs ds) (h : small ds = true) : vs.length ≤ sizeLine := by
  rw [r.length]
  exact Nat.le_trans (of_decide_eq_true h) (by decide)
theorem cond_all {α : Type} {P : α → Prop} {b : Bool} {t : T α} (h : (cond b t .fail).all P) : b = true ∧ t.all P := by
  cases b with
  | true => exact ⟨rfl, h⟩
  | false => exact False.elim h
theorem s_tup {x1 ms} (h : SndA X es ms) : Snd X (.Tuple es x1 pos) (eTup ms) := fun {π N0 H0 N H σ ρ Q} I q => ⟨_, pe_tup pa_wp, h I (T.all_mono (fun ds hd vs H2 e r => by
  obtain ⟨hs, hd⟩ := cond_all hd
  refine ⟨small_ok r hs, fun p hp => ?_⟩
  have np := (I.hn.ext e).new hp
  exact hd _ _ (e.trans (Ex.new e.pot hp)) (.tup (hide_new np) (e.pot.ne hp) (r.mono (Ex.new e.pot hp).kp.hide))) (T.all_bind.mp q))⟩
theorem sl_lst {ms} (h : SndA X es ms) : SndL X (.List es pos) (lLst ms) := fun {π N0 H0 N H σ ρ Q} I q => ⟨_, pe_lst pa_wp, h I (T.all_mono (fun ds hd vs H2 e r => by
  obtain ⟨hs, hd⟩ := cond_all hd
  refine ⟨small_ok r hs, fun p hp => ?_⟩
  have hp0 : H p = none := by
    cases c : H p with
    | none => rfl
    | some o => rw [e.kp p o (e.pot.ne hp) c] at hp; cases hp
  exact hd p vs _ (e.trans (Ex.new e.pot hp)) hp0 upd_same (r.mono ((Ex.new e.pot hp).hidden hp))) (T.all_bind.mp q))⟩
/-- a new list as a value -/
theorem s_ofL {ml : Rho → T (List D)} (h : SndL X e ml) : Snd X e (eL ml) := fun {π N0 H0 N H σ ρ Q} I q => h I (T.all_mono (fun ds hd l vs H2 e n h2 r => by
  have lpi := I.hn.pot.ne n
  have nl : N l = false := I.hn.new n
  exact hd (.ref l) H2 e (.lst (by rw [hide_in nl]; exact h2) lpi (r.mono (Kp.less fun a h => plus_old h)))) (T.all_bind.mp q))

/-! ### what a def promises -/
end
def spD (K : PySem.W.Frag) (P : Program) (w : World) (n : Nat) (F : List D → T D) : Sp := fun vs H Q _ => ∃ (π : Addr) (N : Addr → Bool) (ds : List D), HN π N H ∧ RvL K P w π (Hide N H) vs ds ∧ vs.length = n ∧
  (F ds).all fun d => ∀ v H', Ex π H H' → Rv K P w π (Hide N H') v d → Q v H'
section
variable {X : Cx} {a b c e : Expr} {es : List Expr} {ma mb m : Rho → T D} {mt mu : Rho → T Bool} {pos : Pos}
theorem s_call {k n : Nat} {f : Addr} {fd : FuncData} {ps : List Str} {F : List D → T D} {x : Str} {p : Pos} {ms : Rho → T (List D)} (G : FnOk X.prog X.w X.K X.mg X.base CX0 k f fd ps (spD X.K X.prog X.w n F)) (hr : Room k X.A) (hm : X.mg x = some (.ref f)) (hk : PySem.W.keepIn X.K (.ref f) = true) (hb : Binds X.K fd ps [])
    (ha : SndA X (e :: es) ms) (hg : Gl X x := by rfl) (hdb : (x == ("__debug__" : Str)) = false := by decide) (he : starEach (e :: es) X.env = (false, eval e X.env) :: starEach es X.env := by rfl) (hpl : (backTo pos (starEach es X.env)).any (·.1) = false := by rfl) :
    Snd X (.Call (.Name x p) (e :: es) [] pos) (eCall n F ms) := fun {π N0 H0 N H σ ρ Q} I h =>
  ⟨_, pe_call G hr hg hm hk hb .nil pass0 pa_wp hdb he hpl, ha I (T.all_mono (fun ds hd vs H2 e1 r => by
    obtain ⟨hn, hd⟩ := cond_all hd
    show spD X.K X.prog X.w n F (vs ++ []) H2 Q E0
    rw [List.append_nil]
    exact ⟨π, N, ds, I.hn.ext e1, r, by rw [r.length]; exact by simpa using hn, T.all_mono (fun d q v H3 e3 r3 => q v H3 (e1.trans e3) r3) hd⟩) (T.all_bind.mp h))⟩
theorem s_callB {id : String} {f : List D → T D} {x : Str} {p : Pos} {ms : Rho → T (List D)} (hc : CaSnd X (.builtin id) f) (hm : X.mg x = none) (hv : bootBuiltins x = some (.builtin id)) (ha : SndA X (e :: es) ms) (hg : Gl X x := by rfl) (hn : x ≠ "__name__" := by decide) (hdb : (x == ("__debug__" : Str)) = false := by decide)
    (he : starEach (e :: es) X.env = (false, eval e X.env) :: starEach es X.env := by rfl) (hpl : (backTo pos (starEach es X.env)).any (·.1) = false := by rfl) : Snd X (.Call (.Name x p) (e :: es) [] pos) (eCa f ms) := fun {_ _ _ _ _ _ _ _} I h =>
  ⟨_, pe_callB ca_wp hg hm hv pa_wp hn hdb he hpl, ha I (T.all_mono (fun ds hd vs H2 e1 r => hc (I.hn.ext e1) r (T.all_mono (fun _ q => q.up e1) hd)) (T.all_bind.mp h))⟩
theorem s_callTy {id : String} {f : List D → T D} {x : Str} {p : Pos} {ms : Rho → T (List D)} (hc : CaSnd X (.type id) f) (hm : X.mg x = none) (hv : bootBuiltins x = some (.type id)) (ha : SndA X (e :: es) ms) (hg : Gl X x := by rfl) (hn : x ≠ "__name__" := by decide) (hdb : (x == ("__debug__" : Str)) = false := by decide)
    (he : starEach (e :: es) X.env = (false, eval e X.env) :: starEach es X.env := by rfl) (hpl : (backTo pos (starEach es X.env)).any (·.1) = false := by rfl) : Snd X (.Call (.Name x p) (e :: es) [] pos) (eCa f ms) := fun {_ _ _ _ _ _ _ _} I h =>
  ⟨_, pe_callTy ca_wp hg hm hv pa_wp hn hdb he hpl, ha I (T.all_mono (fun ds hd vs H2 e1 r => hc (I.hn.ext e1) r (T.all_mono (fun _ q => q.up e1) hd)) (T.all_bind.mp h))⟩
theorem sl_callB {id : String} {f : List D → T (List D)} {x : Str} {p : Pos} {ms : Rho → T (List D)} (hc : CaSndL X (.builtin id) f) (hm : X.mg x = none) (hv : bootBuiltins x = some (.builtin id)) (ha : SndA X (e :: es) ms) (hg : Gl X x := by rfl) (hn : x ≠ "__name__" := by decide) (hdb : (x == ("__debug__" : Str)) = false := by decide)
    (he : starEach (e :: es) X.env = (false, eval e X.env) :: starEach es X.env := by rfl) (hpl : (backTo pos (starEach es X.env)).any (·.1) = false := by rfl) : SndL X (.Call (.Name x p) (e :: es) [] pos) (lCa f ms) := fun {_ _ _ _ _ _ _ _} I h =>
  ⟨_, pe_callB ca_wp hg hm hv pa_wp hn hdb he hpl, ha I (T.all_mono (fun ds hd vs H2 e1 r => hc (I.hn.ext e1) r (T.all_mono (fun _ q => q.up e1 I.hn.pot) hd)) (T.all_bind.mp h))⟩
theorem sl_callTy {id : String} {f : List D → T (List D)} {x : Str} {p : Pos} {ms : Rho → T (List D)} (hc : CaSndL X (.type id) f) (hm : X.mg x = none) (hv : bootBuiltins x = some (.type id)) (ha : SndA X (e :: es) ms) (hg : Gl X x := by rfl) (hn : x ≠ "__name__" := by decide) (hdb : (x == ("__debug__" : Str)) = false := by decide)
    (he : starEach (e :: es) X.env = (false, eval e X.env) :: starEach es X.env := by rfl) (hpl : (backTo pos (starEach es X.env)).any (·.1) = false := by rfl) : SndL X (.Call (.Name x p) (e :: es) [] pos) (lCa f ms) := fun {_ _ _ _ _ _ _ _} I h =>
  ⟨_, pe_callTy ca_wp hg hm hv pa_wp hn hdb he hpl, ha I (T.all_mono (fun ds hd vs H2 e1 r => hc (I.hn.ext e1) r (T.all_mono (fun _ q => q.up e1 I.hn.pot) hd)) (T.all_bind.mp h))⟩
end
end Pd

namespace Pd
open PySem L2

mutual
theorem Rv.dp {K : PySem.W.Frag} {P : Program} {w : World} {π : Addr} {N : Addr → Bool} {H : Hp} : ∀ {d : D} {v : V} {p : PyData}, Rv K P w π (Hide N H) v d → d.py = some p → Dp K H v p
  | _, _, _, .non, h => by cases h; exact .non
  | _, _, _, .bl b, h => by cases h; exact .bl b
  | _, _, _, .int b, h => by cases h; exact .int b
  | _, _, _, .str b, h => by cases h; exact .str b
  | .tup ds, _, p, .tup a n r, h => by
    unfold D.py at h
    cases q : D.pys ds with
    | none => rw [q] at h; cases h
    | some ks => rw [q] at h; cases h; exact .tup (.inl (.inl (hide_some a).2)) (RvL.dp r q)
  | .tup ds, _, p, .tupK a r, h => by
    unfold D.py at h
    cases q : D.pys ds with
    | none => rw [q] at h; cases h
    | some ks => rw [q] at h; cases h; exact .tup (a _) (RvL.dp r q)
  | .lst ds, _, p, .lst a n r, h => by
    unfold D.py at h
    cases q : D.pys ds with
    | none => rw [q] at h; cases h
    | some ks => rw [q] at h; cases h; exact .lst (.inl (.inl (hide_some a).2)) (RvL.dp r q)
  | .dic _, _, _, .dic _ _ _, h => by unfold D.py at h; cases h
  | .pot, _, _, .pot, h => by unfold D.py at h; cases h
theorem RvL.dp {K : PySem.W.Frag} {P : Program} {w : World} {π : Addr} {N : Addr → Bool} {H : Hp} : ∀ {ds : List D} {vs : List V} {ps : List PyData}, RvL K P w π (Hide N H) vs ds → D.pys ds = some ps → DpAll K H vs ps
  | _, _, _, .nil, h => by unfold D.pys at h; cases h; exact .nil
  | d :: ds, _, ps, .cons r t, h => by
    unfold D.pys at h
    cases q : D.py d with
    | none => rw [q] at h; cases h
    | some k =>
      rw [q] at h
      cases q2 : D.pys ds with
      | none => rw [q2] at h; cases h
      | some ks => rw [q2] at h; cases h; exact .cons (Rv.dp r q) (RvL.dp t q2)
end

/-! ### operators by values -/
def opAdd : D → D → T D
  | .int i, .int j => .ret (.int (i + j))
  | .tup a, .tup b => cond (small (a ++ b)) (.ret (.tup (a ++ b))) .fail
  | .lst a, .lst b => cond (small (a ++ b)) (.ret (.lst (a ++ b))) .fail
  | .str x, .str y => cond (decide (x.length + y.length ≤ 100000)) (.ret (.str (x ++ y))) .fail
  | _, _ => .fail
def opSub : D → D → T D
  | .int i, .int j => .ret (.int (i - j))
  | _, _ => .fail
def lim64 (i : Int) : Bool := decide (-(2 ^ 64) < i) && decide (i < 2 ^ 64)
def rep (k : Nat) (a : List D) : List D := match k with
  | 0 => []
  | k + 1 => a ++ rep k a
def opMul : D → D → T D
  | .int i, .int j => cond (lim64 i || lim64 j) (.ret (.int (i * j))) .fail
  | .tup a, .int k => cond (decide (2 ≤ k) && decide (k ≤ 1000) && decide (a.length ≤ 100) && !a.isEmpty) (.ret (.tup (rep k.toNat a))) .fail
  | _, _ => .fail
def opFDiv : D → D → T D
  | .int i, .int j => cond (decide (0 < j) && decide (j < 1073741824)) (.ret (.int (i / j))) .fail
  | _, _ => .fail
def opMod : D → D → T D
  | .int i, .int j => cond (decide (0 < j)) (.ret (.int (i % j))) .fail
  | _, _ => .fail
def opPow : D → D → T D
  | .int i, .int j => cond (decide (0 ≤ j) && decide (j ≤ 1000) && decide (i.natAbs < 2 ^ 64)) (.ret (.int (i ^ j.toNat))) .fail
  | _, _ => .fail
def opI (f : Int → Int → Bool) : D → D → T D
  | .int i, .int j => .ret (.bl (f i j))
  | _, _ => .fail
def opLt := opI fun i j => decide (i < j)
def opLe := opI fun i j => decide (i ≤ j)
def opGt := opI fun i j => decide (j < i)
def opGe := opI fun i j => decide (j ≤ i)
def eqD (x y : D) : Option Bool := match x.py, y.py with
  | some p, some q => cond (SeqAt.shaped p && SeqAt.shaped q) (some (PyData.eqv p q)) none
  | _, _ => none
def opEq (x y : D) : T D := match eqD x y with
  | some b => .ret (.bl b)
  | none => .fail
def opNe (x y : D) : T D := match eqD x y with
  | some b => .ret (.bl (!b))
  | none => .fail
theorem eqD_some {x y : D} {b : Bool} (h : eqD x y = some b) : ∃ p q, x.py = some p ∧ y.py = some q ∧ SeqAt.shaped p = true ∧ SeqAt.shaped q = true ∧ PyData.eqv p q = b := by
  unfold eqD at h
  split at h
  · rename_i p q hp hq
    refine ⟨p, q, hp, hq, ?_⟩
    cases c : SeqAt.shaped p && SeqAt.shaped q with
    | false => rw [c] at h; cases h
    | true =>
      rw [c] at h
      have := Bool.and_eq_true_iff.mp c
      exact ⟨this.1, this.2, Option.some.inj h⟩
  · cases h

section
variable {X : Cx}
theorem Kd.new {π : Addr} {N : Addr → Bool} {H : Hp} {Q : VK} {vs : List V} {ds : List D} {p : Addr} (h : Kd X π N H Q (.tup ds)) (hn : HN π N H) (r : RvL X.K X.prog X.w π (Hide N H) vs ds) (hp : H p = none) : Q (.ref p) (upd H p (.tup vs)) :=
  h _ _ (Ex.new hn.pot hp) (.tup (hide_new (hn.new hp)) (hn.pot.ne hp) (r.mono (Ex.new hn.pot hp).kp.hide))
theorem Kd.newL {π : Addr} {N : Addr → Bool} {H : Hp} {Q : VK} {vs : List V} {ds : List D} {p : Addr} (h : Kd X π N H Q (.lst ds)) (hn : HN π N H) (r : RvL X.K X.prog X.w π (Hide N H) vs ds) (hp : H p = none) : Q (.ref p) (upd H p (.lst vs)) :=
  h _ _ (Ex.new hn.pot hp) (.lst (hide_new (hn.new hp)) (hn.pot.ne hp) (r.mono (Ex.new hn.pot hp).kp.hide))
theorem Kl.new {π : Addr} {N : Addr → Bool} {H : Hp} {Q : VK} {vs : List V} {ds : List D} {p : Addr} (h : Kl X π N H Q ds) (hn : HN π N H) (r : RvL X.K X.prog X.w π (Hide N H) vs ds) (hp : H p = none) : Q (.ref p) (upd H p (.lst vs)) :=
  h p vs _ (Ex.new hn.pot hp) hp upd_same (r.mono ((Ex.new hn.pot hp).hidden hp))
theorem RvL.nil_of {K : PySem.W.Frag} {P : Program} {w : World} {π : Addr} {H : Hp} {vs : List V} {ds : List D} (r : RvL K P w π H vs ds) : vs = [] ↔ ds = [] := by
  cases r with
  | nil => simp
  | cons _ _ => simp
theorem os_add : OpSnd X (binaryOp .Add) opAdd := fun {π N H x y dx dy Q} hn rx ry h => by
  unfold opAdd at h
  split at h
  · cases rx; cases ry
    exact ⟨_, op_add, _, _, rfl, rfl, h _ _ (Ex.refl hn.pot) (.int _)⟩
  · obtain ⟨hs, h⟩ := cond_all h
    obtain ⟨a, vs, rfl, ha, ra⟩ := rx.tupE
    obtain ⟨b, us, rfl, hb, rb⟩ := ry.tupE
    have hz : vs.length + us.length ≤ sizeLine := by
      have := small_ok (ra.append rb) hs
      rw [List.length_append] at this
      exact this
    refine ⟨_, op_catA, a, b, vs, us, rfl, rfl, ha, hb, hz, fun e => ?_, fun ne e => ?_, fun ne ne2 p hp => ?_⟩
    · have e' := ra.nil_of.mp e
      refine h _ _ (Ex.refl hn.pot) ?_
      rw [e', List.nil_append]
      exact ry
    · have e' := rb.nil_of.mp e
      refine h _ _ (Ex.refl hn.pot) ?_
      rw [e', List.append_nil]
      exact rx
    · exact Kd.new h hn (ra.append rb) hp
  · obtain ⟨hs, h⟩ := cond_all h
    obtain ⟨a, vs, rfl, ha, _, _, ra⟩ := rx.lstE
    obtain ⟨b, us, rfl, hb, _, _, rb⟩ := ry.lstE
    have hz : vs.length + us.length ≤ sizeLine := by
      have := small_ok (ra.append rb) hs
      rw [List.length_append] at this
      exact this
    exact ⟨_, op_cat, a, b, vs, us, rfl, rfl, ha, hb, hz, fun p hp => Kd.newL h hn (ra.append rb) hp⟩
  · obtain ⟨hs, h⟩ := cond_all h
    cases rx; cases ry
    exact ⟨_, op_add_str, _, _, rfl, rfl, Nat.le_trans (of_decide_eq_true hs) (by decide), h _ _ (Ex.refl hn.pot) (.str _)⟩
  · exact False.elim h
theorem os_sub : OpSnd X (binaryOp .Sub) opSub := fun {π N H x y dx dy Q} hn rx ry h => by
  unfold opSub at h
  split at h
  · cases rx; cases ry
    exact ⟨_, op_sub, _, _, rfl, rfl, h _ _ (Ex.refl hn.pot) (.int _)⟩
  · exact False.elim h
theorem rep_rv {K : PySem.W.Frag} {P : Program} {w : World} {π : Addr} {H : Hp} {vs : List V} {ds : List D} (r : RvL K P w π H vs ds) : ∀ k : Nat, RvL K P w π H (List.replicate k vs).flatten (rep k ds)
  | 0 => .nil
  | k + 1 => by
    show RvL K P w π H (List.replicate (k + 1) vs).flatten (ds ++ rep k ds)
    rw [List.replicate_succ, List.flatten_cons]
    exact r.append (rep_rv r k)
theorem os_mul : OpSnd X (binaryOp .Mult) opMul := fun {π N H x y dx dy Q} hn rx ry h => by
  unfold opMul at h
  split at h
  · cases rx; cases ry
    obtain ⟨hs, h⟩ := cond_all h
    refine ⟨_, op_mul, _, _, rfl, rfl, ?_, h _ _ (Ex.refl hn.pot) (.int _)⟩
    unfold lim64 at hs
    simp only [Bool.or_eq_true, Bool.and_eq_true, decide_eq_true_eq] at hs
    exact hs
  · obtain ⟨hs, h⟩ := cond_all h
    obtain ⟨a, vs, rfl, ha, ra⟩ := rx.tupE
    cases ry
    simp only [Bool.and_eq_true, decide_eq_true_eq, Bool.not_eq_true'] at hs
    obtain ⟨⟨⟨h1, h2⟩, h3⟩, h4⟩ := hs
    refine ⟨_, op_repT, a, _, vs, rfl, rfl, ha, fun e => ?_, h1, h2, by rw [ra.length]; omega, fun p hp => Kd.new h hn (rep_rv ra _) hp⟩
    rw [ra.nil_of.mp e] at h4
    cases h4
  · exact False.elim h
theorem os_fdiv : OpSnd X (binaryOp .FloorDiv) opFDiv := fun {π N H x y dx dy Q} hn rx ry h => by
  unfold opFDiv at h
  split at h
  · cases rx; cases ry
    obtain ⟨hs, h⟩ := cond_all h
    simp only [Bool.and_eq_true, decide_eq_true_eq] at hs
    exact ⟨_, op_fdiv, _, _, rfl, rfl, hs, h _ _ (Ex.refl hn.pot) (.int _)⟩
  · exact False.elim h
theorem os_mod : OpSnd X (binaryOp .Mod) opMod := fun {π N H x y dx dy Q} hn rx ry h => by
  unfold opMod at h
  split at h
  · cases rx; cases ry
    obtain ⟨hs, h⟩ := cond_all h
    simp only [decide_eq_true_eq] at hs
    exact ⟨_, op_mod, _, _, rfl, rfl, hs, h _ _ (Ex.refl hn.pot) (.int _)⟩
  · exact False.elim h
theorem os_pow : OpSnd X (binaryOp .Pow) opPow := fun {π N H x y dx dy Q} hn rx ry h => by
  unfold opPow at h
  split at h
  · cases rx; cases ry
    obtain ⟨hs, h⟩ := cond_all h
    simp only [Bool.and_eq_true, decide_eq_true_eq] at hs
    exact ⟨_, op_pow, _, _, rfl, rfl, ⟨hs.1.1, by omega, hs.2⟩, h _ _ (Ex.refl hn.pot) (.int _)⟩
  · exact False.elim h
theorem os_I {g : Value → Value → Sem Value} {f : Int → Int → Bool} (hr : OpR X g (rI0 fun i j => .bl (f i j))) : OpSnd X g (opI f) := fun {π N H x y dx dy Q} hn rx ry h => by
  unfold opI at h
  split at h
  · cases rx; cases ry
    exact ⟨_, hr, _, _, rfl, rfl, h _ _ (Ex.refl hn.pot) (.bl _)⟩
  · exact False.elim h
theorem os_lt : OpSnd X (compareOp .Lt) opLt := os_I op_lt
theorem os_le : OpSnd X (compareOp .LtE) opLe := os_I op_le
theorem os_gt : OpSnd X (compareOp .Gt) opGt := os_I op_gt
theorem os_ge : OpSnd X (compareOp .GtE) opGe := os_I op_ge
theorem os_eq (hu : X.A.units + 64 < cLine) : OpSnd X (compareOp .Eq) opEq := fun {π N H x y dx dy Q} hn rx ry h => by
  unfold opEq at h
  split at h
  · rename_i b e
    obtain ⟨p, q, hp, hq, sp, sq, rfl⟩ := eqD_some e
    exact ⟨_, op_eqD hu, p, q, rx.dp hp, ry.dp hq, sp, sq, h _ _ (Ex.refl hn.pot) (.bl _)⟩
  · exact False.elim h
theorem os_ne (hu : X.A.units + 64 < cLine) : OpSnd X (compareOp .NotEq) opNe := fun {π N H x y dx dy Q} hn rx ry h => by
  unfold opNe at h
  split at h
  · rename_i b e
    obtain ⟨p, q, hp, hq, sp, sq, rfl⟩ := eqD_some e
    exact ⟨_, op_neD hu, p, q, rx.dp hp, ry.dp hq, sp, sq, h _ _ (Ex.refl hn.pot) (.bl _)⟩
  · exact False.elim h

/-! ### built-ins by values -/
def bLen : List D → T D
  | [.tup ds] => .ret (.int ds.length)
  | [.lst ds] => .ret (.int ds.length)
  | _ => .fail
theorem cs_len : CaSnd X (.builtin "len") bLen := fun {π N H xs ds Q} hn r h => by
  unfold bLen at h
  split at h
  · cases r with
    | cons r t =>
      cases t
      obtain ⟨a, vs, rfl, ha, ra⟩ := r.tupE
      exact ⟨_, call_len_seq, a, vs, rfl, .inr ha, by rw [ra.length]; exact h _ _ (Ex.refl hn.pot) (.int _)⟩
  · cases r with
    | cons r t =>
      cases t
      obtain ⟨a, vs, rfl, ha, _, _, ra⟩ := r.lstE
      exact ⟨_, call_len_seq, a, vs, rfl, .inl (.inl (.inl ha)), by rw [ra.length]; exact h _ _ (Ex.refl hn.pot) (.int _)⟩
  · exact False.elim h
def bInt : List D → T D
  | [.int i] => .ret (.int i)
  | _ => .fail
theorem cs_int : CaSnd X (.type "int") bInt := fun {π N H xs ds Q} hn r h => by
  unfold bInt at h
  split at h
  · cases r with
    | cons r t =>
      cases t; cases r
      exact ⟨_, call_int1, .inl ⟨_, rfl, h _ _ (Ex.refl hn.pot) (.int _)⟩⟩
  · exact False.elim h
def bAbs : List D → T D
  | [.int i] => .ret (.int (if i < 0 then -i else i))
  | _ => .fail
theorem cs_abs : CaSnd X (.builtin "abs") bAbs := fun {π N H xs ds Q} hn r h => by
  unfold bAbs at h
  split at h
  · cases r with
    | cons r t =>
      cases t; cases r
      exact ⟨_, call_abs, _, rfl, h _ _ (Ex.refl hn.pot) (.int _)⟩
  · exact False.elim h
def bMin2 : List D → T D
  | [.int i, .int j] => .ret (.int (if j < i then j else i))
  | _ => .fail
theorem cs_min2 (hc : X.calm = true) : CaSnd X (.builtin "min") bMin2 := fun {π N H xs ds Q} hn r h => by
  unfold bMin2 at h
  split at h
  · cases r with
    | cons r t =>
      cases t with
      | cons r2 t =>
        cases t; cases r; cases r2
        exact ⟨_, call_min2 hc, _, _, rfl, h _ _ (Ex.refl hn.pot) (.int _)⟩
  · exact False.elim h
def bMax2 : List D → T D
  | [.int i, .int j] => .ret (.int (if j > i then j else i))
  | _ => .fail
theorem cs_max2 (hc : X.calm = true) : CaSnd X (.builtin "max") bMax2 := fun {π N H xs ds Q} hn r h => by
  unfold bMax2 at h
  split at h
  · cases r with
    | cons r t =>
      cases t with
      | cons r2 t =>
        cases t; cases r; cases r2
        exact ⟨_, call_max2 hc, _, _, rfl, h _ _ (Ex.refl hn.pot) (.int _)⟩
  · exact False.elim h
def bTuple : List D → T D
  | [.tup ds] => .ret (.tup ds)
  | [.lst ds] => .ret (.tup ds)
  | _ => .fail
theorem cs_tuple : CaSnd X (.type "tuple") bTuple := fun {π N H xs ds Q} hn r h => by
  unfold bTuple at h
  split at h
  · cases r with
    | cons r t =>
      cases t
      obtain ⟨a, vs, rfl, ha, ra⟩ := id r.tupE
      exact ⟨_, call_tuple_of, a, vs, rfl, .inr ⟨ha, h _ _ (Ex.refl hn.pot) r⟩⟩
  · cases r with
    | cons r t =>
      cases t
      obtain ⟨a, vs, rfl, ha, _, _, ra⟩ := id r.lstE
      exact ⟨_, call_tuple_of, a, vs, rfl, .inl ⟨.inl (.inl ha), fun l hl => Kd.new h hn ra hl⟩⟩
  · exact False.elim h
def bList : List D → T (List D)
  | [.tup ds] => .ret ds
  | [.lst ds] => .ret ds
  | _ => .fail
theorem cs_list : CaSndL X (.type "list") bList := fun {π N H xs ds Q} hn r h => by
  unfold bList at h
  split at h
  · cases r with
    | cons r t =>
      cases t
      obtain ⟨a, vs, rfl, ha, ra⟩ := id r.tupE
      exact ⟨_, call_list_of, a, vs, rfl, .inr ha, fun l hl => Kl.new h hn ra hl⟩
  · cases r with
    | cons r t =>
      cases t
      obtain ⟨a, vs, rfl, ha, _, _, ra⟩ := id r.lstE
      exact ⟨_, call_list_of, a, vs, rfl, .inl (.inl (.inl ha)), fun l hl => Kl.new h hn ra hl⟩
  · exact False.elim h
/-- the bools of a list -/
def bools : List D → Option (List Bool)
  | [] => some []
  | .bl b :: ds => match bools ds with
    | some bs => some (b :: bs)
    | none => none
  | _ => none
theorem bools_rv {K : PySem.W.Frag} {P : Program} {w : World} {π : Addr} {H : Hp} : ∀ {ds : List D} {vs : List V} {bs : List Bool}, RvL K P w π H vs ds → bools ds = some bs → vs = bs.map V.bl
  | _, _, bs, .nil, h => by cases h; rfl
  | .bl b :: ds, _, bs, .cons r t, h => by
    unfold bools at h
    cases q : bools ds with
    | none => rw [q] at h; cases h
    | some cs => rw [q] at h; cases h; rw [bools_rv t q, r.bool]; rfl
  | .int _ :: _, _, _, .cons _ _, h => by cases h
  | .non :: _, _, _, .cons _ _, h => by cases h
  | .str _ :: _, _, _, .cons _ _, h => by cases h
  | .tup _ :: _, _, _, .cons _ _, h => by cases h
  | .lst _ :: _, _, _, .cons _ _, h => by cases h
  | .dic _ :: _, _, _, .cons _ _, h => by cases h
  | .pot :: _, _, _, .cons _ _, h => by cases h
def bAll : List D → T D
  | [.lst ds] => match bools ds with
    | some bs => .ret (.bl (bs.all id))
    | none => .fail
  | _ => .fail
theorem cs_all (hc : X.calm = true) : CaSnd X (.builtin "all") bAll := fun {π N H xs ds Q} hn r h => by
  unfold bAll at h
  split at h
  · cases r with
    | cons r t =>
      cases t
      split at h
      · rename_i bs e
        obtain ⟨a, vs, rfl, ha, _, _, ra⟩ := id r.lstE
        exact ⟨_, cr_all hc, a, bs, rfl, by rw [← bools_rv ra e]; exact .inl (.inl ha), h _ _ (Ex.refl hn.pot) (.bl _)⟩
      · exact False.elim h
  · exact False.elim h
def intsOf : List D → Option (List Int)
  | [] => some []
  | .int b :: ds => match intsOf ds with
    | some bs => some (b :: bs)
    | none => none
  | _ => none
theorem ints_rv {K : PySem.W.Frag} {P : Program} {w : World} {π : Addr} {H : Hp} : ∀ {ds : List D} {vs : List V} {bs : List Int}, RvL K P w π H vs ds → intsOf ds = some bs → vs = bs.map V.int
  | _, _, bs, .nil, h => by cases h; rfl
  | .int b :: ds, _, bs, .cons r t, h => by
    unfold intsOf at h
    cases q : intsOf ds with
    | none => rw [q] at h; cases h
    | some cs => rw [q] at h; cases h; rw [ints_rv t q, r.intE]; rfl
  | .bl _ :: _, _, _, .cons _ _, h => by cases h
  | .non :: _, _, _, .cons _ _, h => by cases h
  | .str _ :: _, _, _, .cons _ _, h => by cases h
  | .tup _ :: _, _, _, .cons _ _, h => by cases h
  | .lst _ :: _, _, _, .cons _ _, h => by cases h
  | .dic _ :: _, _, _, .cons _ _, h => by cases h
  | .pot :: _, _, _, .cons _ _, h => by cases h
def sumI : List Int → Int
  | [] => 0
  | i :: is => i + sumI is
theorem sumI_eq : ∀ l : List Int, sumI l = l.sum
  | [] => rfl
  | i :: is => by rw [List.sum_cons, ← sumI_eq is]; rfl
def bSum : List D → T D
  | [.lst ds] => match intsOf ds with
    | some bs => .ret (.int (sumI bs))
    | none => .fail
  | _ => .fail
theorem cs_sum (hc : X.calm = true) : CaSnd X (.builtin "sum") bSum := fun {π N H xs ds Q} hn r h => by
  unfold bSum at h
  split at h
  · cases r with
    | cons r t =>
      cases t
      split at h
      · rename_i bs e
        obtain ⟨a, vs, rfl, ha, _, _, ra⟩ := id r.lstE
        exact ⟨_, cr_sum hc, a, bs, rfl, by rw [← ints_rv ra e]; exact .inl (.inl ha), by rw [← sumI_eq]; exact h _ _ (Ex.refl hn.pot) (.int _)⟩
      · exact False.elim h
  · exact False.elim h

/-! ### places, slices -/
def ixL (ds : List D) (d : D) : T D := match d with
  | .int i => match atI ds i with
    | some d => .ret d
    | none => .fail
  | _ => .fail
def ixD (x d : D) : T D := match x with
  | .tup ds => ixL ds d
  | .lst ds => ixL ds d
  | _ => .fail
theorem ixL_all {P : D → Prop} {ds : List D} {d : D} (h : (ixL ds d).all P) : ∃ i z, d = .int i ∧ atI ds i = some z ∧ P z := by
  cases d with
  | int i =>
    unfold ixL at h
    simp only [] at h
    cases c : atI ds i with
    | none => rw [c] at h; exact False.elim h
    | some z => rw [c] at h; exact ⟨i, z, rfl, c, h⟩
  | _ => exact False.elim h
theorem atI_rv {K : PySem.W.Frag} {P : Program} {w : World} {π : Addr} {H : Hp} {ds : List D} {vs : List V} {i : Int} {d : D} (r : RvL K P w π H vs ds) (h : atI ds i = some d) : ∃ v, atI vs i = some v ∧ Rv K P w π H v d := by
  unfold atI at h ⊢
  rw [r.length]
  obtain ⟨j, hj, h⟩ := Option.bind_eq_some_iff.mp h
  obtain ⟨v, hv, rv⟩ := r.get h
  exact ⟨v, Option.bind_eq_some_iff.mpr ⟨j, hj, hv⟩, rv⟩
variable {a b e : Expr} {ma mb : Rho → T D} {pos : Pos}
def wpIx (X : Cx) : R2 := fun x y H Q => ∃ r, IxR X r ∧ r x y H Q
theorem ix_wp : IxR X (wpIx X) := fun value slice pins s σ H x y v u Q I rx ry ⟨_, h, q⟩ hs => h value slice pins s σ H x y v u Q I rx ry q hs
theorem s_ix (ha : Snd X a ma) (hb : Snd X b mb) (hs : PlainIx b) : Snd X (.Subscript a b pos) (eBin ixD ma mb) := fun {π N0 H0 N H σ ρ Q} I h => ⟨_, pe_ix ix_wp pe_wp pe_wp hs, by
  refine ha I (T.all_mono (fun dx hx => ?_) (T.all_bind.mp h))
  intro v H1 e1 r1
  refine hb (I.ext e1) (T.all_mono (fun dy hy => ?_) (T.all_bind.mp hx))
  intro u H2 e2 r2
  have hn := I.hn.ext (e1.trans e2)
  have r1 := r1.mono e2.kp.hide
  cases dx with
  | tup ds =>
    obtain ⟨i, z, rfl, ez, hy⟩ := ixL_all hy
    cases r2
    obtain ⟨a, vs, rfl, ha, ra⟩ := r1.tupE
    obtain ⟨z', hz, rz⟩ := atI_rv ra ez
    exact ⟨_, ix_tup, a, vs, _, z', rfl, rfl, ha, hz, hy _ _ (e1.trans e2) rz⟩
  | lst ds =>
    obtain ⟨i, z, rfl, ez, hy⟩ := ixL_all hy
    cases r2
    obtain ⟨a, vs, rfl, ha, _, _, ra⟩ := r1.lstE
    obtain ⟨z', hz, rz⟩ := atI_rv ra ez
    exact ⟨_, ix_list, a, vs, _, z', rfl, rfl, .inl (.inl ha), hz, hy _ _ (e1.trans e2) rz⟩
  | _ => exact False.elim hy⟩
/-- an own list's item -/
def ixOwn (i : Nat) (mb : Rho → T D) : Rho → T D := fun ρ => match ρ[i]? with
  | some (.own ds) => (mb ρ).bind fun y => ixL ds y
  | _ => .fail
theorem s_ixOwn (i : Nat) {x : Str} {p : Pos} (hb : Snd X b mb) (hs : PlainIx b) (hN : X.N[i]? = some x := by rfl) (hv : Vis X.env.scope x := by first | exact Or.inl rfl | exact Or.inr (Or.inl rfl) | exact Or.inr (Or.inr rfl)) (hd : (x == ("__debug__" : Str)) = false := by decide)
    (hcd : (x == ("__classdict__" : Str)) = false := by decide) : Snd X (.Subscript (.Name x p) b pos) (ixOwn i mb) := fun {π N0 H0 N H σ ρ Q} I h => by
  unfold ixOwn at h
  split at h
  · rename_i ds c
    obtain ⟨l, vs, hs1, nl, n0, hl, rl⟩ := I.lst i ds c
    refine ⟨_, pe_ix ix_list (pe_var hN hv hd hcd) pe_wp hs, .ref l, hs1, ?_⟩
    refine hb I (T.all_mono (fun dy hy => ?_) (T.all_bind.mp h))
    intro u H2 e2 r2
    obtain ⟨i, z, rfl, ez, hy⟩ := ixL_all hy
    cases r2
    obtain ⟨z', hz, rz⟩ := atI_rv (rl.mono e2.kp.hide) ez
    exact ⟨l, vs, _, z', rfl, rfl, .inl (.inl (e2.kp l _ (N_ne I.hn nl) hl)), hz, hy _ _ e2 rz⟩
  · exact False.elim h
/-- len of an own list -/
def lenOwn (i : Nat) : Rho → T D := fun ρ => match ρ[i]? with
  | some (.own ds) => .ret (.int ds.length)
  | _ => .fail
theorem s_lenOwn (i : Nat) {x : Str} {p p2 : Pos} (hm : X.mg "len" = none) (hg : Gl X "len" := by rfl) (hN : X.N[i]? = some x := by rfl) (hv : Vis X.env.scope x := by first | exact Or.inl rfl | exact Or.inr (Or.inl rfl) | exact Or.inr (Or.inr rfl)) (hd : (x == ("__debug__" : Str)) = false := by decide)
    (hcd : (x == ("__classdict__" : Str)) = false := by decide) (he : starEach [.Name x p] X.env = (false, eval (.Name x p) X.env) :: starEach [] X.env := by rfl) (hpl : (backTo pos (starEach [] X.env)).any (·.1) = false := by rfl) : Snd X (.Call (.Name "len" p2) [.Name x p] [] pos) (lenOwn i) := fun {π N0 H0 N H σ ρ Q} I h => by
  unfold lenOwn at h
  split at h
  · rename_i ds c
    obtain ⟨l, vs, hs1, nl, n0, hl, rl⟩ := I.lst i ds c
    refine ⟨_, pe_callB call_len_seq hg hm PySem.boot_len (pa_cons (pe_var hN hv hd hcd) pa_nil he) (by decide) (by decide) he hpl, .ref l, hs1, l, vs, rfl, .inl (.inl (.inl hl)), ?_⟩
    rw [rl.length]
    exact h _ _ (Ex.refl I.hn.pot) (.int _)
  · exact False.elim h
/-! slices -/
def oNo : Rho → T (Option Int) := fun _ => .ret none
def oPart (m : Rho → T D) : Rho → T (Option Int) := fun ρ => (m ρ).bind fun d => match d with
  | .int i => .ret (some i)
  | _ => .fail
def SndO (X : Cx) (e : Option Expr) (m : Rho → T (Option Int)) : Prop := ∀ ⦃π : Addr⦄ ⦃N0 : Addr → Bool⦄ ⦃H0 : Hp⦄ ⦃N : Addr → Bool⦄ ⦃H : Hp⦄ ⦃σ : L2.St⦄ ⦃ρ : Rho⦄ ⦃Q : Option Int → Hp → Prop⦄, EnvOk X.K X.prog X.w π N0 H0 N H σ ρ → (m ρ).all (fun b => ∀ H2, Ex π H H2 → Q b H2) → ∃ t, PO X e t ∧ t σ H Q
theorem so_no : SndO X none oNo := fun {_ _ _ _ _ _ _ _} I h => ⟨_, po_none, h _ (Ex.refl I.hn.pot)⟩
theorem so_some (ha : Snd X a ma) : SndO X (some a) (oPart ma) := fun {_ _ _ _ _ _ _ _} I h => ⟨_, po_some pe_wp, ha I (T.all_mono (fun d hd v H2 e r => by
  cases d <;> first | exact False.elim hd | (cases r; exact ⟨_, rfl, hd _ e⟩)) (T.all_bind.mp h))⟩
def wpO (X : Cx) (e : Option Expr) : TO := fun σ H Q => ∃ t, PO X e t ∧ t σ H Q
theorem po_wp {e : Option Expr} : PO X e (wpO X e) := ⟨fun pins s σ H Q I ⟨_, h, q⟩ => h.run pins s σ H Q I q⟩
def cutD (xs : List D) (lo hi : Option Int) : List D := (xs.drop (HT.sIx xs.length 0 lo)).take (HT.sIx xs.length xs.length hi - HT.sIx xs.length 0 lo)
def slD (d : D) (lo hi : Option Int) : T D := match d with
  | .tup ds => .ret (.tup (cutD ds lo hi))
  | .lst ds => .ret (.lst (cutD ds lo hi))
  | _ => .fail
def eSl (m : Rho → T D) (ml mh : Rho → T (Option Int)) : Rho → T D := fun ρ => (m ρ).bind fun d => (ml ρ).bind fun l => (mh ρ).bind fun u => slD d l u
theorem cut_rv {K : PySem.W.Frag} {P : Program} {w : World} {π : Addr} {H : Hp} {ds : List D} {vs : List V} {lo hi : Option Int} (r : RvL K P w π H vs ds) : RvL K P w π H (cutV vs lo hi) (cutD ds lo hi) := by
  unfold cutV cutD
  rw [r.length]
  exact (r.drop _).take _
theorem sIx_le : ∀ (n d : Nat) (o : Option Int), d ≤ n → HT.sIx n d o ≤ n := fun n d o h => by
  cases o with
  | none => exact h
  | some i => unfold HT.sIx; simp only []; split <;> (try split) <;> omega
theorem cut_whole {xs : List D} {lo hi : Option Int} (h : HT.sIx xs.length 0 lo = 0 ∧ HT.sIx xs.length xs.length hi = xs.length) : cutD xs lo hi = xs := by
  unfold cutD
  rw [h.1, h.2, List.drop_zero, Nat.sub_zero, List.take_length]
def wpSl (X : Cx) : V → Option Int → Option Int → Hp → VK → Prop := fun x l u H Q => ∃ r, SlR X r ∧ r x l u H Q
theorem sl_wp : SlR X (wpSl X) := fun pins s σ H x v vl vu lo hi sl Q I rx hs pl pu ⟨_, h, q⟩ => h pins s σ H x v vl vu lo hi sl Q I rx hs pl pu q
theorem s_sl {lo hi : Option Expr} {ml mh : Rho → T (Option Int)} {p2 : Pos} (ha : Snd X a ma) (hl : SndO X lo ml) (hh : SndO X hi mh) : Snd X (.Subscript a (.Slice lo hi none p2) pos) (eSl ma ml mh) := fun {π N0 H0 N H σ ρ Q} I h => ⟨_, pe_slice sl_wp pe_wp po_wp po_wp, by
  refine ha I (T.all_mono (fun dx hx => ?_) (T.all_bind.mp h))
  intro v H1 e1 r1
  refine hl (I.ext e1) (T.all_mono (fun l hl => ?_) (T.all_bind.mp hx))
  intro H2 e2
  refine hh (I.ext (e1.trans e2)) (T.all_mono (fun u hu => ?_) (T.all_bind.mp hl))
  intro H3 e3
  have e := (e1.trans e2).trans e3
  have hn := I.hn.ext e
  have r1 := r1.mono (e2.trans e3).kp.hide
  unfold slD at hu
  split at hu
  · obtain ⟨a, vs, rfl, ha, ra⟩ := id r1.tupE
    refine ⟨_, sl_tupA, a, vs, rfl, ha, fun w => ?_, fun w p hp => Kd.new (hu.up e) hn (cut_rv ra) hp⟩
    rw [ra.length] at w
    refine hu _ _ e ?_
    rw [cut_whole w]
    exact r1
  · obtain ⟨a, vs, rfl, ha, _, _, ra⟩ := id r1.lstE
    exact ⟨_, sl_list, a, vs, rfl, .inl (.inl ha), fun p hp => Kd.newL (hu.up e) hn (cut_rv ra) hp⟩
  · exact False.elim hu⟩
end
end Pd

namespace Pd
open PySem L2

inductive Out where
  | nx (ρ : Rho) | rt (d : D) | bk (ρ : Rho) | ct (ρ : Rho)
section
variable (X : Cx)
def OutOk (π : Addr) (N0 : Addr → Bool) (H0 : Hp) (De : Ends) : Out → Prop
  | .nx ρ => ∀ N H σ, EnvOk X.K X.prog X.w π N0 H0 N H σ ρ → De.nx σ H
  | .bk ρ => ∀ N H σ, EnvOk X.K X.prog X.w π N0 H0 N H σ ρ → De.bk σ H
  | .ct ρ => ∀ N H σ, EnvOk X.K X.prog X.w π N0 H0 N H σ ρ → De.ct σ H
  | .rt d => ∀ v H, Ex π H0 H → Rv X.K X.prog X.w π (Hide N0 H) v d → De.rt v H
def SndS (st : Stmt) (m : Rho → T Out) : Prop := ∀ ⦃π : Addr⦄ ⦃N0 : Addr → Bool⦄ ⦃H0 : Hp⦄ ⦃N : Addr → Bool⦄ ⦃H : Hp⦄ ⦃σ : L2.St⦄ ⦃ρ : Rho⦄ ⦃De : Ends⦄, EnvOk X.K X.prog X.w π N0 H0 N H σ ρ → (m ρ).all (OutOk X π N0 H0 De) → wpS X st De σ H
def SndB (sts : List Stmt) (m : Rho → T Out) : Prop := ∀ ⦃π : Addr⦄ ⦃N0 : Addr → Bool⦄ ⦃H0 : Hp⦄ ⦃N : Addr → Bool⦄ ⦃H : Hp⦄ ⦃σ : L2.St⦄ ⦃ρ : Rho⦄ ⦃De : Ends⦄, EnvOk X.K X.prog X.w π N0 H0 N H σ ρ → (m ρ).all (OutOk X π N0 H0 De) → wpSs X sts De σ H
def SndG (tg : Expr) (g : D → Rho → T Rho) : Prop := ∀ ⦃π : Addr⦄ ⦃N0 : Addr → Bool⦄ ⦃H0 : Hp⦄ ⦃N : Addr → Bool⦄ ⦃H : Hp⦄ ⦃σ : L2.St⦄ ⦃ρ : Rho⦄ ⦃v : V⦄ ⦃d : D⦄ ⦃Q : L2.St → Hp → Prop⦄, EnvOk X.K X.prog X.w π N0 H0 N H σ ρ → Rv X.K X.prog X.w π (Hide N H) v d →
  (g d ρ).all (fun ρ' => ∀ σ', EnvOk X.K X.prog X.w π N0 H0 N H σ' ρ' → Q σ' H) → wpG X tg v σ H Q
def SndGs (tgs : List Expr) (g : List D → Rho → T Rho) : Prop := ∀ ⦃π : Addr⦄ ⦃N0 : Addr → Bool⦄ ⦃H0 : Hp⦄ ⦃N : Addr → Bool⦄ ⦃H : Hp⦄ ⦃σ : L2.St⦄ ⦃ρ : Rho⦄ ⦃vs : List V⦄ ⦃ds : List D⦄ ⦃Q : L2.St → Hp → Prop⦄, EnvOk X.K X.prog X.w π N0 H0 N H σ ρ → RvL X.K X.prog X.w π (Hide N H) vs ds →
  (g ds ρ).all (fun ρ' => ∀ σ', EnvOk X.K X.prog X.w π N0 H0 N H σ' ρ' → Q σ' H) → ∃ t, PGs X tgs t ∧ t vs σ H Q
/-- J walks the data ds, wherever what was seen stands -/
def Walk (π : Addr) (B : Hp) (J : It) (ds : List D) : Prop := ∀ (N : Addr → Bool) (H : Hp) (i : Nat), HN π N H → Kp π B (Hide N H) →
  (∀ d, ds[i]? = some d → J.go i H ∧ ∀ x H', J.yld i H x H' → Ex π H H' ∧ Rv X.K X.prog X.w π (Hide N H') x d) ∧ (i = ds.length → J.stop i H)
def SndI (tg it : Expr) (m : Rho → T (List D)) : Prop := ∀ ⦃π : Addr⦄ ⦃N0 : Addr → Bool⦄ ⦃H0 : Hp⦄ ⦃N : Addr → Bool⦄ ⦃H : Hp⦄ ⦃σ : L2.St⦄ ⦃ρ : Rho⦄ ⦃R : It → Hp → Prop⦄, EnvOk X.K X.prog X.w π N0 H0 N H σ ρ →
  (m ρ).all (fun ds => ∀ J H2, Ex π H H2 → Walk X π (Hide N H2) J ds → R J H2) → wpI X tg it σ H R
end

def bNil : Rho → T Out := fun ρ => .ret (.nx ρ)
def bSeq (m1 m2 : Rho → T Out) : Rho → T Out := fun ρ => (m1 ρ).bind fun o => match o with
  | .nx ρ' => m2 ρ'
  | .rt d => .ret (.rt d)
  | .bk ρ' => .ret (.bk ρ')
  | .ct ρ' => .ret (.ct ρ')
def bFreeze (i : Nat) (m : Rho → T Out) : Rho → T Out := fun ρ => match ρ[i]? with
  | some (.own ds) => m (ρ.set i (.val (.lst ds)))
  | _ => m ρ
def bFreezeD (i : Nat) (m : Rho → T Out) : Rho → T Out := fun ρ => match ρ[i]? with
  | some (.ownD kvs) => m (ρ.set i (.val (.dic kvs)))
  | _ => m ρ
def sSet (i : Nat) (m : Rho → T D) : Rho → T Out := fun ρ => (m ρ).bind fun d => .ret (.nx (ρ.set i (.val d)))
def sOwn (i : Nat) (m : Rho → T (List D)) : Rho → T Out := fun ρ => (m ρ).bind fun ds => .ret (.nx (ρ.set i (.own ds)))
def sRet (m : Rho → T D) : Rho → T Out := fun ρ => (m ρ).bind fun d => .ret (.rt d)
def sExpr (m : Rho → T D) : Rho → T Out := fun ρ => (m ρ).bind fun _ => .ret (.nx ρ)
def sIf (mt : Rho → T Bool) (m1 m2 : Rho → T Out) : Rho → T Out := fun ρ => (mt ρ).bind fun b => cond b (m1 ρ) (m2 ρ)
def sFail : Rho → T Out := fun _ => .fail
def sApp (i : Nat) (m : Rho → T D) : Rho → T Out := fun ρ => match ρ[i]? with
  | some (.own ds) => (m ρ).bind fun d => cond (small ds) (.ret (.nx (ρ.set i (.own (ds ++ [d]))))) .fail
  | _ => .fail
def sAsg (g : D → Rho → T Rho) (m : Rho → T D) : Rho → T Out := fun ρ => (m ρ).bind fun d => (g d ρ).bind fun ρ' => .ret (.nx ρ')
def gNm (i : Nat) : D → Rho → T Rho := fun d ρ => .ret (ρ.set i (.val d))
def gsNil : List D → Rho → T Rho := fun ds ρ => match ds with
  | [] => .ret ρ
  | _ => .fail
def gsCons (g : D → Rho → T Rho) (gs : List D → Rho → T Rho) : List D → Rho → T Rho := fun ds ρ => match ds with
  | d :: ds => (g d ρ).bind fun ρ' => gs ds ρ'
  | [] => .fail
def gTp (n : Nat) (gs : List D → Rho → T Rho) : D → Rho → T Rho := fun d ρ => match d with
  | .tup ds => cond (ds.length == n) (gs ds ρ) .fail
  | _ => .fail
def forT (body : D → Rho → T Out) : List D → Rho → T Out
  | [], ρ => .ret (.nx ρ)
  | d :: ds, ρ => (body d ρ).bind fun o => match o with
    | .nx ρ' => forT body ds ρ'
    | .ct ρ' => forT body ds ρ'
    | .bk ρ' => .ret (.nx ρ')
    | .rt r => .ret (.rt r)
def sFor (mi : Rho → T (List D)) (g : D → Rho → T Rho) (body : Rho → T Out) : Rho → T Out := fun ρ => (mi ρ).bind fun ds => forT (fun d ρ => (g d ρ).bind body) ds ρ
def whT (mt : Rho → T Bool) (body : Rho → T Out) : Nat → Rho → T Out
  | 0, _ => .fail
  | f + 1, ρ => (mt ρ).bind fun b => cond b ((body ρ).bind fun o => match o with
    | .nx ρ' => whT mt body f ρ'
    | .ct ρ' => whT mt body f ρ'
    | .bk ρ' => .ret (.nx ρ')
    | .rt r => .ret (.rt r)) (.ret (.nx ρ))

section
variable {X : Cx} {st : Stmt} {sts rest : List Stmt} {a b c e : Expr} {ma mb m : Rho → T D} {mt : Rho → T Bool} {m1 m2 : Rho → T Out} {pos : Pos}
theorem b_nil : SndB X [] bNil := fun {_ _ _ _ _ _ _ _} I h => ⟨_, pss_nil, h _ _ _ I⟩
theorem b_cons (h1 : SndS X st m1) (h2 : SndB X rest m2) : SndB X (st :: rest) (bSeq m1 m2) := fun {π N0 H0 N H σ ρ De} I h =>
  ⟨_, pss_cons ps_wp pss_wp, h1 I (T.all_mono (fun o ho => by
    cases o with
    | nx ρ' => exact fun N' H' σ' I' => h2 I' ho
    | rt d => exact ho
    | bk ρ' => exact ho
    | ct ρ' => exact ho) (T.all_bind.mp h))⟩
theorem b_one (h1 : SndS X st m1) : SndB X [st] m1 := fun {_ _ _ _ _ _ _ _} I h => ⟨_, pss_one ps_wp, h1 I h⟩
theorem b_freeze (i : Nat) (h : SndB X sts m1) : SndB X sts (bFreeze i m1) := fun {π N0 H0 N H σ ρ De} I q => by
  unfold bFreeze at q
  split at q
  · obtain ⟨N', I'⟩ := I.freeze (by assumption)
    exact h I' q
  · exact h I q
theorem b_freezeD (i : Nat) (h : SndB X sts m1) : SndB X sts (bFreezeD i m1) := fun {π N0 H0 N H σ ρ De} I q => by
  unfold bFreezeD at q
  split at q
  · obtain ⟨l, xs, N', hl, I'⟩ := I.freezeD (by assumption)
    refine ⟨fun De σ H => ∃ l u, H l = some u ∧ Mut (some u) ∧ ∀ od, wpSs X sts De σ (upd H l (.frz od u)), ⟨fun pins s σ H De J z => ?_⟩, l, _, hl, True.intro, fun od => h (I' od) q⟩
    obtain ⟨l, u, hl, mu, z⟩ := z
    obtain ⟨od, J1⟩ := J.lock hl mu
    exact pss_wp.run pins s σ _ De J1 (z od)
  · exact h I q
theorem ss_set {i : Nat} {x : Str} {pos' : Pos} (hN : X.N.Nodup) (he : Snd X e m) (hi : X.N[i]? = some x := by rfl) (hx : Loc X.env.scope x := by first | exact .inl rfl | exact .inr rfl) (hs : swapsWith e (some (.Name x pos')) pos.line X.env = pure false := by rfl) (hf : X.fn x = true ∨ X.env.scope.names.lookup x = some .local := by first | exact .inl rfl | exact .inr rfl) :
    SndS X (.Assign [.Name x pos'] e pos) (sSet i m) := fun {π N0 H0 N H σ ρ De} I h => ⟨_, ps_set hN hi hx pe_wp hs hf, he I (T.all_mono (fun d hd => by intro v H2 e2 r; exact hd _ _ _ ((I.ext e2).set r)) (T.all_bind.mp h))⟩
theorem ss_own {i : Nat} {x : Str} {pos' : Pos} {ml : Rho → T (List D)} (hN : X.N.Nodup) (he : SndL X e ml) (hi : X.N[i]? = some x := by rfl) (hx : Loc X.env.scope x := by first | exact .inl rfl | exact .inr rfl) (hs : swapsWith e (some (.Name x pos')) pos.line X.env = pure false := by rfl) (hf : X.fn x = true ∨ X.env.scope.names.lookup x = some .local := by first | exact .inl rfl | exact .inr rfl) :
    SndS X (.Assign [.Name x pos'] e pos) (sOwn i ml) := fun {π N0 H0 N H σ ρ De} I h => ⟨_, ps_set hN hi hx pe_wp hs hf, he I (T.all_mono (fun ds hd => by intro l vs H2 e2 hl h2 r; exact hd _ _ _ (I.newAny e2 hl (by rw [h2]; exact fun z => by cases z) (.inl ⟨vs, ds, rfl, h2, r⟩))) (T.all_bind.mp h))⟩
theorem EnvOk.ret {π : Addr} {N0 N : Addr → Bool} {H0 H H2 : Hp} {σ : L2.St} {ρ : Rho} {v : V} {d : D} (I : EnvOk X.K X.prog X.w π N0 H0 N H σ ρ) (e : Ex π H H2) (r : Rv X.K X.prog X.w π (Hide N H2) v d) : Ex π H0 H2 ∧ Rv X.K X.prog X.w π (Hide N0 H2) v d :=
  ⟨⟨I.ex.trans e.kp, e.pot⟩, r.mono (Kp.less I.sub)⟩
theorem ss_ret (he : Snd X e m) : SndS X (.Return (some e) pos) (sRet m) := fun {π N0 H0 N H σ ρ De} I h => ⟨_, ps_ret pe_wp, he I (T.all_mono (fun d hd => by intro v H2 e2 r; exact hd v H2 (I.ret e2 r).1 (I.ret e2 r).2) (T.all_bind.mp h))⟩
theorem ss_retN : SndS X (.Return none pos) (sRet (eC .non)) := fun {π N0 H0 N H σ ρ De} I h => ⟨_, ps_retN, h .non H (I.ret (Ex.refl I.hn.pot) .non).1 .non⟩
theorem ss_expr (he : Snd X e m) (hs : swapsWith e none pos.line X.env = pure false := by rfl) : SndS X (.Expr e pos) (sExpr m) := fun {π N0 H0 N H σ ρ De} I h => ⟨_, ps_expr pe_wp hs, he I (T.all_mono (fun d hd => by intro v H2 e2 r; exact hd _ _ _ (I.ext e2)) (T.all_bind.mp h))⟩
theorem ss_if {xs ys : List Stmt} (hc : SndT X c mt) (ha : SndB X xs m1) (hb : SndB X ys m2) : SndS X (.If c xs ys pos) (sIf mt m1 m2) := fun {π N0 H0 N H σ ρ De} I h => ⟨_, ps_if pt_wp pss_wp pss_wp, hc I (T.all_mono (fun k hk H2 e2 => by
  cases k with
  | true => exact iteT (ha (I.ext e2) hk)
  | false => exact iteF (hb (I.ext e2) hk)) (T.all_bind.mp h))⟩
theorem ss_fail : SndS X st sFail := fun {_ _ _ _ _ _ _ _} _ h => False.elim h
theorem sb_fail : SndB X sts sFail := fun {_ _ _ _ _ _ _ _} _ h => False.elim h
theorem ss_pass : SndS X (.Pass pos) bNil := fun {_ _ _ _ _ _ _ _} I h => ⟨_, ps_pass, h _ _ _ I⟩
theorem ss_brk : SndS X (.Break pos) (fun ρ => .ret (.bk ρ)) := fun {_ _ _ _ _ _ _ _} I h => ⟨_, ps_break, h _ _ _ I⟩
theorem ss_ct : SndS X (.Continue pos) (fun ρ => .ret (.ct ρ)) := fun {_ _ _ _ _ _ _ _} I h => ⟨_, ps_continue, h _ _ _ I⟩
theorem ss_app {i : Nat} {x : Str} {p apos cpos : Pos} (he : Snd X e m) (hN : X.N[i]? = some x := by rfl) (hv : Vis X.env.scope x := by first | exact Or.inl rfl | exact Or.inr (Or.inl rfl) | exact Or.inr (Or.inr rfl)) (hd : (x == ("__debug__" : Str)) = false := by decide)
    (hcd : (x == ("__classdict__" : Str)) = false := by decide) (hse : starEach [e] X.env = (false, eval e X.env) :: starEach [] X.env := by rfl) (hpl : (backTo cpos (starEach [] X.env)).any (·.1) = false := by rfl)
    (hs : swapsWith (.Call (.Attribute (.Name x p) "append" apos) [e] [] cpos) none pos.line X.env = pure false := by rfl) (hfew : ((((backTo cpos (starEach [e] X.env)).all fun x => !x.fst) && (backToKw cpos (keywordEach [] X.env)).all fun x => x.fst.isSome) && decide (([e].length + ([] : List Keyword).length + if ([] : List Keyword).isEmpty = true then 0 else 1) < 30)) = true := by rfl) (hline : (apos.endLine == cpos.line) = true := by rfl) : SndS X (.Expr (.Call (.Attribute (.Name x p) "append" apos) [e] [] cpos) pos) (sApp i m) := fun {π N0 H0 N H σ ρ De} I h => by
  unfold sApp at h
  split at h
  · rename_i ds c
    obtain ⟨l, vs, hs1, nl, n0, hl, rl⟩ := I.lst i ds c
    refine ⟨_, ps_expr (pe_bm PySem.F.plainAttrs_list PySem.F.slot_list_append PySem.F.type_list_append mt_append (pe_var hN hv hd hcd) (pa_cons pe_wp pa_nil hse) (hfew := hfew) (hline := hline) (hs := hse) (hplain := hpl)) hs, .ref l, hs1, .inl ⟨rfl, _, SqL.of hl⟩, ?_⟩
    refine he I (T.all_mono (fun d hd => ?_) (T.all_bind.mp h))
    intro v H2 e2 r
    obtain ⟨hsm, hd⟩ := cond_all hd
    have hl2 := e2.kp l _ (N_ne I.hn nl) hl
    refine ⟨l, vs, v, rfl, rfl, hl2, ?_, ?_⟩
    · rw [rl.length]
      exact Nat.lt_of_le_of_lt (of_decide_eq_true hsm) (by decide)
    · exact hd _ _ _ ((I.ext e2).upAny c rfl hs1 nl n0 (.inl ⟨vs ++ [v], ds ++ [d], rfl, rfl, (rl.mono e2.kp.hide).append (.cons r .nil)⟩))
  · exact False.elim h
/-! targets -/
theorem g_name {i : Nat} {x : Str} (hN : X.N.Nodup) (hi : X.N[i]? = some x := by rfl) (hx : Loc X.env.scope x := by first | exact .inl rfl | exact .inr rfl) (hf : X.fn x = true ∨ X.env.scope.names.lookup x = some .local := by first | exact .inl rfl | exact .inr rfl | assumption) : SndG X (.Name x pos) (gNm i) := fun {_ _ _ _ _ _ _ _ _ _} I r h => ⟨_, pg_name hN hi hx hf, h _ (I.set r)⟩
theorem gs_nil : SndGs X [] gsNil := fun {π N0 H0 N H σ ρ vs ds Q} I r h => by
  cases r with
  | nil => exact ⟨_, pgs_nil, rfl, h _ I⟩
  | cons _ _ => exact False.elim h
theorem gs_cons {es : List Expr} {g : D → Rho → T Rho} {gs : List D → Rho → T Rho} (h1 : SndG X e g) (h2 : SndGs X es gs) (hs : (assignEach (e :: es) X.env).map (·.2) = assign e X.env :: (assignEach es X.env).map (·.2) := by rfl) : SndGs X (e :: es) (gsCons g gs) := fun {π N0 H0 N H σ ρ vs ds Q} I r h => by
  cases r with
  | nil => exact False.elim h
  | cons r t =>
    refine ⟨_, pgs_cons (u := fun vs σ H Q => ∃ t, PGs X es t ∧ t vs σ H Q) pg_wp ⟨fun pins s σ H vs us Q I r ⟨_, h, q⟩ => h.run pins s σ H vs us Q I r q⟩ hs, _, _, rfl, h1 I r (T.all_mono (fun ρ' hρ σ' I' => h2 I' t hρ) (T.all_bind.mp h))⟩
theorem g_tup {es : List Expr} {k n : Nat} {gs : List D → Rho → T Rho} (hc : X.calm = true) (h : SndGs X es gs) (hn : (assignEach es X.env).length = n := by rfl) (hst : (assignEach es X.env).findIdx? (·.1) = none := by rfl) : SndG X (.Tuple es k pos) (gTp n gs) := fun {π N0 H0 N H σ ρ v d Q} I r q => by
  unfold gTp at q
  split at q
  · obtain ⟨hl, q⟩ := cond_all q
    obtain ⟨a, vs, rfl, ha, ra⟩ := id r.tupE
    exact ⟨_, pg_tup (t := fun vs σ H Q => ∃ t, PGs X es t ∧ t vs σ H Q) hc ⟨fun pins s σ H vs us Q I r ⟨_, h, q⟩ => h.run pins s σ H vs us Q I r q⟩ hn hst, a, vs, rfl, ha, by rw [ra.length]; exact by simpa using hl, h I ra q⟩
  · exact False.elim q
theorem ss_asg {tg : Expr} {g : D → Rho → T Rho} (he : Snd X e m) (hg : SndG X tg g) (hs : swapsWithSole [tg] e pos.line X.env = pure false := by rfl) (hw : swappedStores [tg] e X.env = pure none := by rfl)
    (h1 : (assignEach [tg] X.env).map (·.2) = [assign tg X.env] := by rfl) : SndS X (.Assign [tg] e pos) (sAsg g m) := fun {π N0 H0 N H σ ρ De} I h => ⟨_, ps_asg pe_wp pg_wp hs hw h1, he I (T.all_mono (fun d hd => by intro v H2 e2 r; exact hg (I.ext e2) r (T.all_mono (fun ρ' q => by intro σ' I'; exact q _ _ _ I') (T.all_bind.mp hd))) (T.all_bind.mp h))⟩
/-! loops -/
theorem ss_for {tg it : Expr} {body : List Stmt} {mi : Rho → T (List D)} {g : D → Rho → T Rho} {mbd : Rho → T Out} (hp : PassesOwn (model X.prog X.w) X.A X.env X.xe) (hc : X.calm = true) (hi : SndI X tg it mi) (hg : SndG X tg g) (hb : SndB X body mbd)
    (hs : ∀ x, foldedSetIterable it X.env x = pure x := by intro _; rfl) : SndS X (.For tg it body [] pos) (sFor mi g mbd) := fun {π N0 H0 N H σ ρ De} I h => by
  refine ⟨_, ps_for hp hc pi_wp pg_wp pss_wp hs, hi I (T.all_mono (fun ds hds J H2 e2 wk => ?_) (T.all_bind.mp h))⟩
  have I2 := I.ext e2
  refine ⟨fun i k σ' H' => k = ds.length - i ∧ i ≤ ds.length ∧ ∃ N' ρ', EnvOk X.K X.prog X.w π N0 (baseOf N0 N H2) N' H' σ' ρ' ∧ (forT (fun d ρ => (g d ρ).bind mbd) (ds.drop i) ρ').all (OutOk X π N0 H0 De),
    ⟨ds.length, rfl, Nat.zero_le _, N, ρ, I2.rebase, hds⟩, ?_⟩
  rintro i k σ' H' ⟨rfl, hle, N', ρ', I', hall⟩
  have w := wk N' H' i I'.hn (I2.seen I')
  by_cases hlt : i < ds.length
  · have hget : ds[i]? = some ds[i] := List.getElem?_eq_getElem hlt
    obtain ⟨go, yl⟩ := w.1 _ hget
    rw [List.drop_eq_getElem_cons hlt] at hall
    refine .inr ⟨go, fun σ'' H'' => ∃ N'' ρ'', EnvOk X.K X.prog X.w π N0 (baseOf N0 N H2) N'' H'' σ'' ρ'' ∧ (forT (fun d ρ => (g d ρ).bind mbd) (ds.drop (i + 1)) ρ'').all (OutOk X π N0 H0 De), fun σ'' H'' q => ⟨ds.length - (i + 1), by omega, rfl, hlt, q⟩, fun x H'' y => ?_⟩
    obtain ⟨e3, rx⟩ := yl x H'' y
    refine hg (I'.ext e3) rx (T.all_mono (fun ρ2 h2 σ2 I3 => ?_) (T.all_bind.mp (T.all_bind.mp hall)))
    refine hb I3 (T.all_mono (fun o ho => ?_) h2)
    cases o with
    | nx ρ3 => exact fun N4 H4 σ4 I4 => ⟨N4, ρ3, I4, ho⟩
    | ct ρ3 => exact fun N4 H4 σ4 I4 => ⟨N4, ρ3, I4, ho⟩
    | bk ρ3 => exact fun N4 H4 σ4 I4 => ho N4 H4 σ4 (I2.unbase I4)
    | rt d => exact fun v H4 e4 r4 => ho v H4 ⟨I2.base_kp.trans e4.kp, e4.pot⟩ r4
  · have e : i = ds.length := by omega
    subst e
    rw [List.drop_length] at hall
    exact .inl ⟨w.2 rfl, hall _ _ _ (I2.unbase I')⟩
theorem ss_while {body : List Stmt} {mbd : Rho → T Out} (f : Nat) (hp : PassesOwn (model X.prog X.w) X.A X.env X.xe) (hc : SndT X c mt) (hb : SndB X body mbd) : SndS X (.While c body [] pos) (whT mt mbd f) := fun {π N0 H0 N H σ ρ De} I h => by
  refine ⟨_, ps_while hp pt_wp pss_wp, fun k σ' H' => ∃ N' ρ', EnvOk X.K X.prog X.w π N0 H0 N' H' σ' ρ' ∧ (whT mt mbd k ρ').all (OutOk X π N0 H0 De), ⟨f, N, ρ, I, h⟩, ?_⟩
  rintro k σ' H' ⟨N', ρ', I', h'⟩
  cases k with
  | zero => exact False.elim h'
  | succ k =>
    refine hc I' (T.all_mono (fun b hb' H2 e2 => ?_) (T.all_bind.mp h'))
    cases b with
    | false => exact iteF (hb' _ _ _ (I'.ext e2))
    | true =>
      refine iteT ⟨fun σ'' H'' => ∃ N'' ρ'', EnvOk X.K X.prog X.w π N0 H0 N'' H'' σ'' ρ'' ∧ (whT mt mbd k ρ'').all (OutOk X π N0 H0 De), fun σ'' H'' q => ⟨k, Nat.lt_succ_self k, q⟩, ?_⟩
      refine hb (I'.ext e2) (T.all_mono (fun o ho => ?_) (T.all_bind.mp hb'))
      cases o with
      | nx ρ3 => exact fun N4 H4 σ4 I4 => ⟨N4, ρ3, I4, ho⟩
      | ct ρ3 => exact fun N4 H4 σ4 I4 => ⟨N4, ρ3, I4, ho⟩
      | bk ρ3 => exact fun N4 H4 σ4 I4 => ho N4 H4 σ4 I4
      | rt d => exact ho
end
end Pd

namespace Pd
open PySem L2 RZ

def asL : D → T (List D)
  | .lst ds => .ret ds
  | _ => .fail
def asTp : D → T (List D)
  | .tup ds => .ret ds
  | _ => .fail
def iLst (m : Rho → T D) : Rho → T (List D) := fun ρ => (m ρ).bind asL
def iTp (m : Rho → T D) : Rho → T (List D) := fun ρ => (m ρ).bind asTp
def upto (lo : Int) : Nat → List D
  | 0 => []
  | n + 1 => .int lo :: upto (lo + 1) n
theorem upto_len : ∀ (lo : Int) (n : Nat), (upto lo n).length = n
  | _, 0 => rfl
  | lo, n + 1 => congrArg Nat.succ (upto_len (lo + 1) n)
theorem upto_get : ∀ {lo : Int} {n i : Nat} {d : D}, (upto lo n)[i]? = some d → i < n ∧ d = .int (lo + i)
  | _, 0, _, _, h => by cases h
  | lo, n + 1, 0, d, h => by
    cases h
    exact ⟨Nat.succ_pos n, by simp⟩
  | lo, n + 1, i + 1, d, h => by
    obtain ⟨a, b⟩ := upto_get (lo := lo + 1) (n := n) (i := i) h
    refine ⟨Nat.succ_lt_succ a, ?_⟩
    rw [b]
    congr 1
    omega
def rng1 : List D → T (List D)
  | [.int j] => cond (decide (j ≤ 100000) && decide (-100000 ≤ j)) (.ret (upto 0 j.toNat)) .fail
  | _ => .fail
def rng2 : List D → T (List D)
  | [.int i, .int j] => cond (decide (j ≤ 100000) && decide (-100000 ≤ j) && (decide (i ≤ 100000) && decide (-100000 ≤ i))) (.ret (upto i (j - i).toNat)) .fail
  | _ => .fail
def iRg (f : List D → T (List D)) (ms : Rho → T (List D)) : Rho → T (List D) := fun ρ => (ms ρ).bind f
def zipD : List D → List D → List D
  | a :: as, b :: bs => .tup [a, b] :: zipD as bs
  | _, _ => []
theorem zipD_get : ∀ {as bs : List D} {i : Nat} {d : D}, (zipD as bs)[i]? = some d → ∃ a b, as[i]? = some a ∧ bs[i]? = some b ∧ d = .tup [a, b]
  | [], _, _, _, h => by simp [zipD] at h
  | _ :: _, [], _, _, h => by simp [zipD] at h
  | a :: as, b :: bs, 0, d, h => by cases h; exact ⟨a, b, rfl, rfl, rfl⟩
  | a :: as, b :: bs, i + 1, d, h => zipD_get (as := as) (bs := bs) (i := i) h
theorem zipD_len : ∀ (as bs : List D), (zipD as bs).length = min as.length bs.length
  | [], _ => by simp [zipD]
  | _ :: _, [] => by simp [zipD]
  | a :: as, b :: bs => by
    show (zipD as bs).length + 1 = min (as.length + 1) (bs.length + 1)
    rw [zipD_len as bs]
    omega
/-- zip of two tuples -/
def zipT : List D → T (List D)
  | [.tup as, .tup bs] => .ret (zipD as bs)
  | _ => .fail
def zipLs : List D → T (List D)
  | [.lst as, .lst bs] => .ret (zipD as bs)
  | _ => .fail

/-! comprehensions -/
def compT (g : D → Rho → T Rho) (mt : Rho → T Bool) (me : Rho → T D) (ρ : Rho) : List D → List D → T (List D)
  | [], acc => .ret acc
  | d :: ds, acc => (g d ρ).bind fun ρ2 => (mt ρ2).bind fun b => cond b ((me ρ2).bind fun y => cond (small acc) (compT g mt me ρ ds (acc ++ [y])) .fail) (compT g mt me ρ ds acc)
def wipeR (ρ : Rho) : List Nat → Rho
  | [] => ρ
  | v :: vs => (wipeR ρ vs).set v .un
def yesT : Rho → T Bool := fun _ => .ret true
def lComp (vs : List Nat) (mi : Rho → T (List D)) (g : D → Rho → T Rho) (mt : Rho → T Bool) (me : Rho → T D) : Rho → T (List D) := fun ρ => (mi ρ).bind fun ds => compT g mt me (wipeR ρ vs) ds []

section
variable {X : Cx} {a b c e : Expr} {es : List Expr} {m ma mb : Rho → T D} {pos : Pos} {tg : Expr}
theorem vis_some {π : Addr} {N N' : Addr → Bool} {H H' : Hp} {a : Addr} {o : HO} (k : Kp π (Hide N H) (Hide N' H')) (na : N a = false) (ne : a ≠ π) (h : H a = some o) : N' a = false ∧ H' a = some o := by
  have := k a o ne (by rw [hide_in na]; exact h)
  exact hide_some this
theorem walk_list {π : Addr} {N : Addr → Bool} {H : Hp} {a : Addr} {vs : List V} {ds : List D} (ha : H a = some (.lst vs)) (na : N a = false) (ne : a ≠ π) (r : RvL X.K X.prog X.w π (Hide N H) vs ds) : Walk X π (Hide N H) (Itl X.K a) ds := fun N' H' i hn k => by
  obtain ⟨n', h'⟩ := vis_some k na ne ha
  have sq : SqL X.K H' a vs := .inl (.inl h')
  refine ⟨fun d hd => ?_, fun e => ⟨vs, sq, by rw [r.length, e]; exact Nat.le_refl _⟩⟩
  obtain ⟨v, hv, rv⟩ := r.get hd
  refine ⟨⟨vs, v, sq, hv⟩, fun x H2 y => ?_⟩
  obtain ⟨rfl, y⟩ := y
  have := y vs sq
  rw [hv] at this
  cases this
  exact ⟨Ex.refl hn.pot, rv.mono k⟩
theorem si_list (ha : Snd X a m) : SndI X tg a (iLst m) := fun {π N0 H0 N H σ ρ R} I h => ⟨_, pi_list pe_wp, ha I (T.all_mono (fun d hd => by
  intro v H2 e2 r
  cases d with
  | lst ds =>
    obtain ⟨a, vs, rfl, ha, na, ne, ra⟩ := id r.lstE
    exact ⟨a, rfl, ⟨vs, .inl (.inl ha)⟩, hd _ _ e2 (walk_list ha na ne ra)⟩
  | _ => exact False.elim hd) (T.all_bind.mp h))⟩
theorem sqt_kp {π : Addr} {N N' : Addr → Bool} {H H' : Hp} {v : V} {ds : List D} (k : Kp π (Hide N H) (Hide N' H')) (r : Rv X.K X.prog X.w π (Hide N H) v (.tup ds)) : ∃ a vs, v = .ref a ∧ SqT X.K H a vs ∧ SqT X.K H' a vs ∧ RvL X.K X.prog X.w π (Hide N H) vs ds ∧ RvL X.K X.prog X.w π (Hide N' H') vs ds := by
  cases r with
  | tup h n r =>
    obtain ⟨na, h1⟩ := hide_some h
    exact ⟨_, _, rfl, .inl (.inl h1), .inl (.inl (vis_some k na n h1).2), r, r.mono k⟩
  | tupK h r => exact ⟨_, _, rfl, h _, h _, r, r.mono k⟩
theorem walk_tup {π : Addr} {N : Addr → Bool} {H : Hp} {a : Addr} {ds : List D} (r : Rv X.K X.prog X.w π (Hide N H) (.ref a) (.tup ds)) : Walk X π (Hide N H) (Itt X.K a) ds := fun N' H' i hn k => by
  obtain ⟨a', vs, e, _, sq, _, ra⟩ := sqt_kp k r
  cases e
  refine ⟨fun d hd => ?_, fun e => ⟨vs, sq, by rw [ra.length, e]; exact Nat.le_refl _⟩⟩
  obtain ⟨v, hv, rv⟩ := ra.get hd
  refine ⟨⟨vs, v, sq, hv⟩, fun x H2 y => ?_⟩
  obtain ⟨rfl, y⟩ := y
  have := y vs sq
  rw [hv] at this
  cases this
  exact ⟨Ex.refl hn.pot, rv⟩
theorem si_tup (ha : Snd X a m) : SndI X tg a (iTp m) := fun {π N0 H0 N H σ ρ R} I h => ⟨_, pi_tup pe_wp, ha I (T.all_mono (fun d hd => by
  intro v H2 e2 r
  cases d with
  | tup ds =>
    obtain ⟨a, vs, rfl, ha, ra⟩ := id r.tupE
    exact ⟨a, rfl, ⟨vs, ha⟩, hd _ _ e2 (walk_tup r)⟩
  | _ => exact False.elim hd) (T.all_bind.mp h))⟩
theorem walk_range {π : Addr} {B : Hp} {lo : Int} {n : Nat} : Walk X π B (Itr lo n) (upto lo n) := fun N' H' i hn k => by
  refine ⟨fun d hd => ?_, fun e => by show n ≤ i; rw [e, upto_len]; exact Nat.le_refl _⟩
  obtain ⟨hi, rfl⟩ := upto_get hd
  refine ⟨hi, fun x H2 y => ?_⟩
  obtain ⟨rfl, rfl⟩ := y
  exact ⟨Ex.refl hn.pot, .int _⟩
theorem si_range1 {ms : Rho → T (List D)} {p : Pos} (hm : X.mg "range" = none) (ha : SndA X [a] ms) (hg : Gl X "range" := by rfl) (hs : starEach [a] X.env = [(false, eval a X.env)] := by rfl) : SndI X tg (.Call (.Name "range" p) [a] [] pos) (iRg rng1 ms) := fun {π N0 H0 N H σ ρ R} I h =>
  ⟨_, pi_range1 hg hm pa_wp hs, ha I (T.all_mono (fun ds hd => by
    intro vs H2 e2 r
    unfold rng1 at hd
    split at hd
    · obtain ⟨hb, hd⟩ := cond_all hd
      simp only [Bool.and_eq_true, decide_eq_true_eq] at hb
      cases r with
      | cons r t =>
        cases t; cases r
        exact ⟨_, rfl, by omega, by omega, hd _ _ e2 walk_range⟩
    · exact False.elim hd) (T.all_bind.mp h))⟩
theorem si_range2 {ms : Rho → T (List D)} {p : Pos} (hm : X.mg "range" = none) (ha : SndA X [a, b] ms) (hg : Gl X "range" := by rfl) (hs : starEach [a, b] X.env = [(false, eval a X.env), (false, eval b X.env)] := by rfl) (hs2 : starEach [b] X.env = [(false, eval b X.env)] := by rfl) : SndI X tg (.Call (.Name "range" p) [a, b] [] pos) (iRg rng2 ms) := fun {π N0 H0 N H σ ρ R} I h =>
  ⟨_, pi_range2 hg hm pa_wp hs hs2, ha I (T.all_mono (fun ds hd => by
    intro vs H2 e2 r
    unfold rng2 at hd
    split at hd
    · obtain ⟨hb, hd⟩ := cond_all hd
      simp only [Bool.and_eq_true, decide_eq_true_eq] at hb
      cases r with
      | cons r t =>
        cases t with
        | cons r2 t =>
          cases t; cases r; cases r2
          exact ⟨_, _, rfl, ⟨by omega, by omega, by omega, by omega⟩, hd _ _ e2 walk_range⟩
    · exact False.elim hd) (T.all_bind.mp h))⟩
theorem walk_zipT {π : Addr} {N : Addr → Bool} {H : Hp} {a b : Addr} {as bs : List D} (r : Rv X.K X.prog X.w π (Hide N H) (.ref a) (.tup as)) (r2 : Rv X.K X.prog X.w π (Hide N H) (.ref b) (.tup bs)) : Walk X π (Hide N H) (ItzT X.K a b) (zipD as bs) := fun N' H' i hn k => by
  obtain ⟨a', vs, e, _, sq, _, ra⟩ := sqt_kp k r
  cases e
  obtain ⟨b', us, e, _, sq2, _, rb⟩ := sqt_kp k r2
  cases e
  refine ⟨fun d hd => ?_, fun e => ⟨vs, us, sq, sq2, ?_⟩⟩
  · obtain ⟨x, y, hx, hy, rfl⟩ := zipD_get hd
    obtain ⟨v, hv, rv⟩ := ra.get hx
    obtain ⟨u, hu, ru⟩ := rb.get hy
    refine ⟨⟨vs, us, v, u, sq, sq2, hv, hu⟩, fun z H2 q => ?_⟩
    obtain ⟨T, x', y', rfl, hT, rfl, f1, f2⟩ := q
    have e1 := f1 vs sq
    have e2 := f2 us sq2
    rw [hv] at e1
    rw [hu] at e2
    cases e1; cases e2
    exact ⟨Ex.new hn.pot hT, .tup (hide_new (hn.new hT)) (hn.pot.ne hT) (.cons (rv.mono (Ex.new hn.pot hT).kp.hide) (.cons (ru.mono (Ex.new hn.pot hT).kp.hide) .nil))⟩
  · rw [zipD_len] at e
    rw [ra.length, rb.length]
    omega
theorem si_zipT {ms : Rho → T (List D)} {p tpos : Pos} {elts : List Expr} {kk : Nat} (hm : X.mg "zip" = none) (ha : SndA X [a, b] ms) (hg : Gl X "zip" := by rfl) (hs : starEach [a, b] X.env = (false, eval a X.env) :: starEach [b] X.env := by rfl) (hpl : (backTo pos (starEach [b] X.env)).any (·.1) = false := by rfl) :
    SndI X (.Tuple elts kk tpos) (.Call (.Name "zip" p) [a, b] [] pos) (iRg zipT ms) := fun {π N0 H0 N H σ ρ R} I h => ⟨_, pi_zipA hg hm pa_wp hs hpl, ha I (T.all_mono (fun ds hd => by
    intro vs H2 e2 r
    unfold zipT at hd
    split at hd
    · cases r with
      | cons r t =>
        cases t with
        | cons r2 t =>
          cases t
          obtain ⟨a, vs, rfl, ha, ra⟩ := id r.tupE
          obtain ⟨b, us, rfl, hb, rb⟩ := id r2.tupE
          exact ⟨a, b, vs, us, rfl, .inr ⟨ha, hb, hd _ _ e2 (walk_zipT r r2)⟩⟩
    · exact False.elim hd) (T.all_bind.mp h))⟩

/-! ### comprehensions -/
theorem wipe_ok {K : PySem.W.Frag} {P : Program} {w : World} {π : Addr} {N0 N : Addr → Bool} {H0 H : Hp} {σ : L2.St} {ρ : Rho} (I : EnvOk K P w π N0 H0 N H σ ρ) : ∀ vs : List Nat, EnvOk K P w π N0 H0 N H (wipe σ vs) (wipeR ρ vs)
  | [] => I
  | v :: vs => (wipe_ok I vs).wipe1
/-- the readings of a comprehension's pieces -/
def bE (X : Cx) (scope : Scope) (e : Expr) : TE := fun σ H Q => ∀ (s : Shared) (Hh : Hp) (C : Addr) (cl : List (Str × Addr)) (fp : List Addr), wpE (X.blk s Hh scope (compEnvC scope cl C X.env) fp) e σ H Q
def bG (X : Cx) (scope : Scope) (e : Expr) : TG := fun v σ H Q => ∀ (s : Shared) (Hh : Hp) (C : Addr) (cl : List (Str × Addr)) (fp : List Addr), wpG (X.blk s Hh scope (compEnvC scope cl C X.env) fp) e v σ H Q
def wpTs (X : Cx) (ifs : List Expr) : TT := fun σ H Q => ∃ te, PTs X ifs te ∧ te σ H Q
theorem pts_wp {ifs : List Expr} : PTs X ifs (wpTs X ifs) := ⟨fun pins s σ H Q I ⟨_, h, q⟩ => h.run pins s σ H Q I q⟩
def bT (X : Cx) (scope : Scope) (ifs : List Expr) : TT := fun σ H Q => ∀ (s : Shared) (Hh : Hp) (C : Addr) (cl : List (Str × Addr)) (fp : List Addr), wpTs (X.blk s Hh scope (compEnvC scope cl C X.env) fp) ifs σ H Q
def SndTs (X : Cx) (ifs : List Expr) (m : Rho → T Bool) : Prop := ∀ ⦃π : Addr⦄ ⦃N0 : Addr → Bool⦄ ⦃H0 : Hp⦄ ⦃N : Addr → Bool⦄ ⦃H : Hp⦄ ⦃σ : L2.St⦄ ⦃ρ : Rho⦄ ⦃Q : Bool → Hp → Prop⦄, EnvOk X.K X.prog X.w π N0 H0 N H σ ρ → (m ρ).all (fun b => ∀ H2, Ex π H H2 → Q b H2) → wpTs X ifs σ H Q
theorem ts_nil : SndTs X [] yesT := fun {_ _ _ _ _ _ _ _} I h => ⟨_, pts_nil, h _ (Ex.refl I.hn.pot)⟩
theorem ts_one {mt : Rho → T Bool} (hc : SndT X c mt) : SndTs X [c] mt := fun {_ _ _ _ _ _ _ _} I h => ⟨_, pts_one pt_wp, hc I h⟩

theorem EnvOk.hideNew {K : PySem.W.Frag} {P : Program} {w : World} {π : Addr} {N0 N : Addr → Bool} {H0 H H' : Hp} {σ : L2.St} {ρ : Rho} {l : Addr} {vs : List V} (I : EnvOk K P w π N0 H0 N H σ ρ) (e : Ex π H H') (hl : H l = none) (hl' : H' l = some (.lst vs)) (r : ∃ ds, RvL K P w π (Hide (plus N l) H') vs ds) : EnvOk K P w π N0 H0 (plus N l) H' σ ρ := by
  obtain ⟨ds, r⟩ := r
  have J := I.newAny (i := σ.length) (x := .own ds) e hl (by rw [hl']; exact fun z => by cases z) (.inl ⟨vs, ds, rfl, hl', r⟩)
  rw [List.set_eq_of_length_le (Nat.le_refl _), List.set_eq_of_length_le (by rw [I.len]; exact Nat.le_refl _)] at J
  exact J
/-- a hidden list that no name holds changes -/
theorem EnvOk.upHid {K : PySem.W.Frag} {P : Program} {w : World} {π : Addr} {N0 N : Addr → Bool} {H0 H : Hp} {σ : L2.St} {ρ : Rho} {l : Addr} {o : HO} (I : EnvOk K P w π N0 H0 N H σ ρ) (nl : N l = true) (n0 : N0 l = false)
    (no : ∀ (j : Nat) (f : Ent) (l' : Addr), ρ[j]? = some f → f.isOwn = true → σ[j]? = some (some (.ref l')) → l' ≠ l) : EnvOk K P w π N0 H0 N (upd H l o) σ ρ := by
  have lpi := N_ne I.hn nl
  have e : Hide N (upd H l o) = Hide N H := by
    funext a
    by_cases q : a = l
    · subst q; simp [Hide, nl]
    · unfold Hide; rw [upd_ne q]
  refine ⟨⟨?_, I.hn.npi, fun a h => ?_⟩, fun a u n h => ?_, I.sub, I.own0, I.len, fun j d h => ?_, fun j x h xo => ?_, I.inj⟩
  · obtain ⟨x, y, q, r⟩ := I.hn.pot
    exact ⟨x, y, by rw [upd_ne lpi.symm]; exact q, r⟩
  · by_cases q : a = l
    · subst q; rw [upd_same]; exact fun z => by cases z
    · rw [upd_ne q]; exact I.hn.isS a h
  · by_cases q : a = l
    · subst q
      rcases I.own0 a nl with z | z
      · rw [n0] at z; cases z
      · rw [z] at h; cases h
    · rw [upd_ne q]; exact I.ex a u n h
  · rw [e]; exact I.val j d h
  · rw [e]
    obtain ⟨l', o', a, n, n1, b, c⟩ := I.own j x h xo
    exact ⟨l', o', a, n, n1, by rw [upd_ne (no j _ l' h xo a)]; exact b, c⟩

theorem wipe_at {j : Nat} : ∀ (vs : List Nat) (τ τ' : L2.St), τ.length = τ'.length → j ∈ vs → (wipe τ vs)[j]? = (wipe τ' vs)[j]?
  | [], _, _, _, h => by cases h
  | u :: us, τ, τ', hl, hm => by
    unfold wipe
    by_cases q2 : u = j
    · subst q2
      by_cases c : u < (wipe τ us).length
      · rw [List.getElem?_set_self c, List.getElem?_set_self (by rw [wipe_length] at c ⊢; omega)]
      · rw [List.getElem?_eq_none (by rw [List.length_set]; omega), List.getElem?_eq_none (by rw [List.length_set]; rw [wipe_length] at c ⊢; omega)]
    · rw [List.getElem?_set_ne q2, List.getElem?_set_ne q2]
      exact wipe_at us τ τ' hl (by
        rcases List.mem_cons.mp hm with e | e
        · exact absurd e.symm q2
        · exact e)
theorem wipe_ext {vs : List Nat} {τ τ' : L2.St} (hl : τ.length = τ'.length) (h : ∀ j : Nat, j ∉ vs → τ[j]? = τ'[j]?) : wipe τ vs = wipe τ' vs := by
  refine List.ext_getElem? fun j => ?_
  by_cases c : j ∈ vs
  · exact wipe_at vs τ τ' hl c
  · rw [wipe_out c, wipe_out c]
    exact h j c
theorem wipe_wipe {vs : List Nat} {σ : L2.St} : wipe (wipe σ vs) vs = wipe σ vs := wipe_ext (wipe_length _ _) fun j hj => wipe_out hj
theorem wipe_set {vs : List Nat} {σ : L2.St} {i : Nat} {x : Option V} (hi : i ∈ vs) : wipe (σ.set i x) vs = wipe σ vs := wipe_ext (by rw [List.length_set]) fun j hj => List.getElem?_set_ne fun e => hj (by rw [← e]; exact hi)
/-- a comprehension's target: its own names alone are stored -/
def SndGw (X : Cx) (vs : List Nat) (tg : Expr) (g : D → Rho → T Rho) : Prop := ∀ ⦃π : Addr⦄ ⦃N0 : Addr → Bool⦄ ⦃H0 : Hp⦄ ⦃N : Addr → Bool⦄ ⦃H : Hp⦄ ⦃σ : L2.St⦄ ⦃ρ : Rho⦄ ⦃v : V⦄ ⦃d : D⦄ ⦃Q : L2.St → Hp → Prop⦄, EnvOk X.K X.prog X.w π N0 H0 N H σ ρ → Rv X.K X.prog X.w π (Hide N H) v d →
  (g d ρ).all (fun ρ' => ∀ σ', EnvOk X.K X.prog X.w π N0 H0 N H σ' ρ' → Q σ' H) → wpG X tg v σ H fun σ' H' => wipe σ' vs = wipe σ vs ∧ Q σ' H'
def SndGsw (X : Cx) (vs : List Nat) (tgs : List Expr) (g : List D → Rho → T Rho) : Prop := ∀ ⦃π : Addr⦄ ⦃N0 : Addr → Bool⦄ ⦃H0 : Hp⦄ ⦃N : Addr → Bool⦄ ⦃H : Hp⦄ ⦃σ : L2.St⦄ ⦃ρ : Rho⦄ ⦃us : List V⦄ ⦃ds : List D⦄ ⦃Q : L2.St → Hp → Prop⦄, EnvOk X.K X.prog X.w π N0 H0 N H σ ρ → RvL X.K X.prog X.w π (Hide N H) us ds →
  (g ds ρ).all (fun ρ' => ∀ σ', EnvOk X.K X.prog X.w π N0 H0 N H σ' ρ' → Q σ' H) → ∃ t, PGs X tgs t ∧ t us σ H fun σ' H' => wipe σ' vs = wipe σ vs ∧ Q σ' H'
theorem gw_name {i : Nat} {x : Str} {vs : List Nat} (hN : X.N.Nodup) (hm : i ∈ vs) (hi : X.N[i]? = some x := by rfl) (hx : Loc X.env.scope x := by first | exact .inl rfl | exact .inr rfl) (hf : X.fn x = true ∨ X.env.scope.names.lookup x = some .local := by first | exact .inl rfl | exact .inr rfl | assumption) : SndGw X vs (.Name x pos) (gNm i) := fun {_ _ _ _ _ _ _ _ _ _} I r h => ⟨_, pg_name hN hi hx hf, wipe_set hm, h _ (I.set r)⟩
theorem wpG_mono {e : Expr} {v : V} {σ : L2.St} {H : Hp} {Q Q' : L2.St → Hp → Prop} (h : wpG X e v σ H Q) (k : ∀ a b, Q a b → Q' a b) : wpG X e v σ H Q' := by
  obtain ⟨t, p, q⟩ := h
  exact ⟨fun v σ H Q => ∃ Q0, (∀ a b, Q0 a b → Q a b) ∧ t v σ H Q0, ⟨fun pins s σ H v u Q I r ⟨Q0, k, q⟩ => thn (p.run pins s σ H v u Q0 I r q) fun _ s' ⟨σ', H', I', z⟩ => ⟨σ', H', I', k _ _ z⟩⟩, Q, k, q⟩
theorem pgs_mono {es : List Expr} {us : List V} {σ : L2.St} {H : Hp} {Q Q' : L2.St → Hp → Prop} (h : ∃ t, PGs X es t ∧ t us σ H Q) (k : ∀ a b, Q a b → Q' a b) : ∃ t, PGs X es t ∧ t us σ H Q' := by
  obtain ⟨t, p, q⟩ := h
  exact ⟨fun v σ H Q => ∃ Q0, (∀ a b, Q0 a b → Q a b) ∧ t v σ H Q0, ⟨fun pins s σ H v u Q I r ⟨Q0, k, q⟩ => thn (p.run pins s σ H v u Q0 I r q) fun _ s' ⟨σ', H', I', z⟩ => ⟨σ', H', I', k _ _ z⟩⟩, Q, k, q⟩
theorem gsw_nil {vs : List Nat} : SndGsw X vs [] gsNil := fun {π N0 H0 N H σ ρ us ds Q} I r h => by
  cases r with
  | nil => exact ⟨_, pgs_nil, rfl, rfl, h _ I⟩
  | cons _ _ => exact False.elim h
theorem gsw_cons {vs : List Nat} {e : Expr} {es : List Expr} {g : D → Rho → T Rho} {gs : List D → Rho → T Rho} (h1 : SndGw X vs e g) (h2 : SndGsw X vs es gs) (hs : (assignEach (e :: es) X.env).map (·.2) = assign e X.env :: (assignEach es X.env).map (·.2) := by rfl) : SndGsw X vs (e :: es) (gsCons g gs) := fun {π N0 H0 N H σ ρ us ds Q} I r h => by
  cases r with
  | nil => exact False.elim h
  | cons r t =>
    refine ⟨_, pgs_cons (u := fun vs σ H Q => ∃ t, PGs X es t ∧ t vs σ H Q) pg_wp ⟨fun pins s σ H vs us Q I r ⟨_, h, q⟩ => h.run pins s σ H vs us Q I r q⟩ hs, _, _, rfl, ?_⟩
    refine wpG_mono (h1 (Q := fun σ1 H1 => ∃ tt, PGs X es tt ∧ tt _ σ1 H1 fun σ' H' => wipe σ' vs = wipe σ1 vs ∧ Q σ' H') I r (T.all_mono (fun ρ' hρ σ' I' => h2 I' t hρ) (T.all_bind.mp h))) fun σ1 H1 q => ?_
    obtain ⟨e1, q⟩ := q
    exact pgs_mono q fun σ2 H2 z => ⟨z.1.trans e1, z.2⟩
theorem gw_tup {vs : List Nat} {es : List Expr} {k n : Nat} {gs : List D → Rho → T Rho} (hc : X.calm = true) (h : SndGsw X vs es gs) (hn : (assignEach es X.env).length = n := by rfl) (hst : (assignEach es X.env).findIdx? (·.1) = none := by rfl) : SndGw X vs (.Tuple es k pos) (gTp n gs) := fun {π N0 H0 N H σ ρ v d Q} I r q => by
  unfold gTp at q
  split at q
  · obtain ⟨hl, q⟩ := cond_all q
    obtain ⟨a, us, rfl, ha, ra⟩ := id r.tupE
    exact ⟨_, pg_tup (t := fun vs σ H Q => ∃ t, PGs X es t ∧ t vs σ H Q) hc ⟨fun pins s σ H vs us Q I r ⟨_, h, q⟩ => h.run pins s σ H vs us Q I r q⟩ hn hst, a, us, rfl, ha, by rw [ra.length]; exact by simpa using hl, h I ra q⟩
  · exact False.elim q
/-- SndG in a comprehension: its own names alone are stored -/
theorem lc_run {π : Addr} {N0 N : Addr → Bool} {H0 H : Hp} {σ : L2.St} {ρ : Rho} {Q : VK} {tg it elt : Expr} {ifs : List Expr} {scope : Scope} {vs : List Nat} {mi : Rho → T (List D)} {g : D → Rho → T Rho} {mt : Rho → T Bool} {me : Rho → T D}
    (hi : SndI X tg it mi) (hg : ∀ s Hh C cl fp, SndGw (X.blk s Hh scope (compEnvC scope cl C X.env) fp) vs tg g) (ht : ∀ s Hh C cl fp, SndTs (X.blk s Hh scope (compEnvC scope cl C X.env) fp) ifs mt) (he : ∀ s Hh C cl fp, Snd (X.blk s Hh scope (compEnvC scope cl C X.env) fp) elt me)
    (I : EnvOk X.K X.prog X.w π N0 H0 N H σ ρ) (h : (lComp vs mi g mt me ρ).all (Kl X π N H Q)) : tLc (wpI X tg it) (bG X scope tg) (bT X scope ifs) (bE X scope elt) vs σ H Q := by
  refine hi I (T.all_mono (fun ds hds J H2 e2 wk => ?_) (T.all_bind.mp h))
  intro Dl hD
  have I2 := I.ext e2
  have hD0 : H Dl = none := by
    cases c : H Dl with
    | none => rfl
    | some o => rw [e2.kp Dl o (I2.hn.pot.ne hD) c] at hD; cases hD
  have eN : Ex π H2 (upd H2 Dl (.lst [])) := Ex.new I2.hn.pot hD
  have dpi := I2.hn.pot.ne hD
  have I3 : EnvOk X.K X.prog X.w π N0 H0 (plus N Dl) (upd H2 Dl (.lst [])) (wipe σ vs) (wipeR ρ vs) := wipe_ok (I2.hideNew eN hD upd_same ⟨[], .nil⟩) vs
  have n0 : N0 Dl = false := by
    cases c : N0 Dl with
    | false => rfl
    | true =>
      have := I2.hn.new hD
      rw [I2.sub Dl c] at this
      cases this
  -- no name holds the new list
  have no : ∀ (j : Nat) (f : Ent) (l' : Addr), (wipeR ρ vs)[j]? = some f → f.isOwn = true → (wipe σ vs)[j]? = some (some (.ref l')) → l' ≠ Dl := fun j f l' h1 o1 s1 => by
    have W := wipe_ok I2 vs
    have nD : ∀ {o : HO}, H2 l' = some o → l' ≠ Dl := fun {o} h z => by rw [z, hD] at h; cases h
    obtain ⟨l2, o2, a, _, _, b, _⟩ := W.own j f h1 o1
    rw [s1] at a
    cases a
    exact nD b
  refine ⟨fun i k H' => k = ds.length - i ∧ i ≤ ds.length ∧ ∃ acc accD, EnvOk X.K X.prog X.w π N0 H0 (plus N Dl) H' (wipe σ vs) (wipeR ρ vs) ∧ Kp π H2 H' ∧ H' Dl = some (.lst acc) ∧ RvL X.K X.prog X.w π (Hide (plus N Dl) H') acc accD ∧ (compT g mt me (wipeR ρ vs) (ds.drop i) accD).all (Kl X π N H Q),
    ⟨ds.length, rfl, Nat.zero_le _, [], [], I3, eN.kp, upd_same, .nil, hds⟩, ?_⟩
  rintro i k H' ⟨rfl, hle, acc, accD, I', kp, hDl, rl, hall⟩
  have vis : Kp π (Hide N H2) (Hide (plus N Dl) H') := fun a o n q => by
    obtain ⟨na, ha⟩ := hide_some q
    have ne : a ≠ Dl := fun z => by rw [z, hD] at ha; cases ha
    rw [hide_in (by simp [plus, na, ne])]
    exact kp a o n ha
  have w := wk (plus N Dl) H' i I'.hn vis
  by_cases hlt : i < ds.length
  · have hget : ds[i]? = some ds[i] := List.getElem?_eq_getElem hlt
    obtain ⟨go, yl⟩ := w.1 _ hget
    rw [List.drop_eq_getElem_cons hlt] at hall
    refine .inr ⟨go, fun H'' => ∃ acc accD, EnvOk X.K X.prog X.w π N0 H0 (plus N Dl) H'' (wipe σ vs) (wipeR ρ vs) ∧ Kp π H2 H'' ∧ H'' Dl = some (.lst acc) ∧ RvL X.K X.prog X.w π (Hide (plus N Dl) H'') acc accD ∧ (compT g mt me (wipeR ρ vs) (ds.drop (i + 1)) accD).all (Kl X π N H Q), fun H'' q => ⟨ds.length - (i + 1), by omega, rfl, hlt, q⟩, fun x H'' y => ?_⟩
    obtain ⟨e3, rx⟩ := yl x H'' y
    have I4 := I'.ext e3
    refine fun s Hh C cl fp => wpG_mono (hg s Hh C cl fp (Q := fun σ2 H2' => bT X scope ifs σ2 H2' fun b H3 => if b = true then bE X scope elt σ2 H3 fun y H4 => ∃ acc, H4 Dl = some (.lst acc) ∧ acc.length < sizeLine ∧
      (∃ acc' accD, EnvOk X.K X.prog X.w π N0 H0 (plus N Dl) (upd H4 Dl (.lst (acc ++ [y]))) (wipe σ vs) (wipeR ρ vs) ∧ Kp π H2 (upd H4 Dl (.lst (acc ++ [y]))) ∧ (upd H4 Dl (.lst (acc ++ [y]))) Dl = some (.lst acc') ∧ RvL X.K X.prog X.w π (Hide (plus N Dl) (upd H4 Dl (.lst (acc ++ [y])))) acc' accD ∧ (compT g mt me (wipeR ρ vs) (ds.drop (i + 1)) accD).all (Kl X π N H Q))
      else ∃ acc' accD, EnvOk X.K X.prog X.w π N0 H0 (plus N Dl) H3 (wipe σ vs) (wipeR ρ vs) ∧ Kp π H2 H3 ∧ H3 Dl = some (.lst acc') ∧ RvL X.K X.prog X.w π (Hide (plus N Dl) H3) acc' accD ∧ (compT g mt me (wipeR ρ vs) (ds.drop (i + 1)) accD).all (Kl X π N H Q))
      (I4 : EnvOk X.K X.prog X.w π N0 H0 (plus N Dl) H'' (wipe σ vs) (wipeR ρ vs)) rx (T.all_mono (fun ρ2 h2 => ?_) (T.all_bind.mp hall))) fun σ' H' q => ⟨q.1.trans wipe_wipe, q.2⟩
    intro σ2 I5 s Hh C cl fp
    refine ht s Hh C cl fp I5 (T.all_mono (fun b hb => ?_) (T.all_bind.mp h2))
    intro H5 e5
    have e35 := e3.trans e5
    cases b with
    | false => exact iteF ⟨acc, accD, I4.ext e5, kp.trans e35.kp, e35.kp Dl _ dpi hDl, rl.mono e35.kp.hide, hb⟩
    | true =>
      refine iteT fun s Hh C cl fp => he s Hh C cl fp (I5.ext e5 : EnvOk X.K X.prog X.w π N0 H0 (plus N Dl) H5 σ2 ρ2) (T.all_mono (fun y hy => ?_) (T.all_bind.mp hb))
      intro v H6 e6 rv
      obtain ⟨hsm, hy⟩ := cond_all hy
      have e36 := e35.trans e6
      have hD6 := e36.kp Dl _ dpi hDl
      have hd : Hide (plus N Dl) (upd H6 Dl (.lst (acc ++ [v]))) = Hide (plus N Dl) H6 := by
        funext a
        by_cases q : a = Dl
        · subst q; simp [Hide, plus]
        · unfold Hide; rw [upd_ne q]
      refine ⟨acc, hD6, by rw [rl.length]; exact Nat.lt_of_le_of_lt (of_decide_eq_true hsm) (by decide), acc ++ [v], accD ++ [y], ((I4.ext (e5.trans e6)).upHid plus_self n0 no), ?_, upd_same, ?_, hy⟩
      · intro a o n q
        have ne : a ≠ Dl := fun z => by rw [z, hD] at q; cases q
        rw [upd_ne ne]
        exact (kp.trans e36.kp) a o n q
      · rw [hd]
        exact (rl.mono e36.kp.hide).append (.cons rv .nil)
  · have e : i = ds.length := by omega
    subst e
    rw [List.drop_length] at hall
    exact .inl ⟨w.2 rfl, hall Dl acc H' ⟨e2.kp.trans kp, I'.hn.pot⟩ hD0 hDl rl⟩
end
end Pd

namespace Pd
open PySem L2

def runB (n : Nat) (m : Rho → T Out) : List D → T D := fun ds => (m (ds.map Ent.val ++ List.replicate (n - ds.length) Ent.un)).bind fun o => match o with
  | .nx _ => .ret .non
  | .rt d => .ret d
  | .bk _ => .fail
  | .ct _ => .fail
theorem env_start {K : PySem.W.Frag} {P : Program} {w : World} {π : Addr} {N : Addr → Bool} {H : Hp} {vs : List V} {ds : List D} {Nm : List Str} (hn : HN π N H) (r : RvL K P w π (Hide N H) vs ds) :
    EnvOk K P w π N H N H (L2.start Nm vs) (ds.map Ent.val ++ List.replicate (Nm.length - ds.length) Ent.un) := by
  have hl := r.length
  have at' : ∀ (i : Nat) (e : Ent), (ds.map Ent.val ++ List.replicate (Nm.length - ds.length) Ent.un)[i]? = some e → e = .un ∨ ∃ d, ds[i]? = some d ∧ e = .val d := fun i e h => by
    by_cases c : i < ds.length
    · rw [List.getElem?_append_left (by rw [List.length_map]; exact c), List.getElem?_map] at h
      cases q : ds[i]? with
      | none => rw [q] at h; cases h
      | some d => rw [q] at h; cases h; exact .inr ⟨d, rfl, rfl⟩
    · rw [List.getElem?_append_right (by rw [List.length_map]; omega), List.getElem?_replicate] at h
      split at h
      · cases h; exact .inl rfl
      · cases h
  refine ⟨hn, .refl, fun _ h => h, fun _ h => .inl h, ?_, fun i d h => ?_, fun i x h xo => ?_, fun i j e f l h1 h2 o1 o2 => ?_⟩
  · unfold L2.start
    rw [List.length_append, List.length_append, List.length_map, List.length_map, List.length_replicate, List.length_replicate, hl]
  · rcases at' i _ h with e | ⟨d', hd, e⟩
    · cases e
    · cases e
      obtain ⟨v, hv, rv⟩ := r.get hd
      refine ⟨v, ?_, rv⟩
      have c : i < vs.length := (List.getElem?_eq_some_iff.mp hv).1
      unfold L2.start
      rw [List.getElem?_append_left (by rw [List.length_map]; exact c), List.getElem?_map, hv]
      rfl
  · rcases at' i _ h with e | ⟨d', hd, e⟩ <;> (subst e; cases xo)
  · rcases at' i _ h1 with e | ⟨d', hd, e⟩ <;> (subst e; cases o1)
section
variable {P : Program} {w : World} {K : PySem.W.Frag} {mg : Str → Option Value} {base : Heap}
/-- a def of the text, by its body's reading -/
theorem fn_ok {x qual : Str} {st : Stmt} {f : Addr} {fd : FuncData} {Nm ps : List Str} {k n p : Nat} {m : Rho → T Out} {G : List D → T D} (F : Fun K x qual st f fd) (S : FnScope Nm ps (defScope st)) (hn : Nm.length = n) (hp : ps.length = p) (hG : G = runB n m)
    (hb : ∀ (cdv : Value) (A : Around) (outer : List Env) (s : Shared) (H : Hp) (E : XK), Room k (A.deeper (PyProof.Rows.envOfC qual (defScope st) s.heap.objs.size f cdv)) → SndB (cxOf CX0 P w K mg base Nm qual (defScope st) f cdv A outer s H E).nox (defBody st) m) :
    FnOk P w K mg base CX0 (k + 1) f fd ps (spD K P w p G) := by
  subst hn hp hG
  refine F.ok S (fun vs H Q E h => ?_) (fun cdv A outer s H vs Q E hr h => ?_)
  · obtain ⟨π, N, ds, hn, r, hl, _⟩ := h
    exact hl
  · obtain ⟨π, N, ds, hn, r, hl, hall⟩ := h
    refine hb cdv A outer s H E hr (env_start hn r) (T.all_mono (fun o ho => ?_) (T.all_bind.mp hall))
    cases o with
    | nx ρ => exact fun N' H' σ' I => ho .non H' ⟨I.ex, I.hn.pot⟩ .non
    | rt d => exact fun v H' e r => ho v H' e r
    | bk ρ => exact False.elim ho
    | ct ρ => exact False.elim ho
end
section
variable {X : Cx} {a b c e : Expr} {es : List Expr} {m ma mb : Rho → T D} {pos : Pos} {tg it elt : Expr} {ifs : List Expr} {scope : Scope} {own : List (Str × Nat)} {mi : Rho → T (List D)} {g : D → Rho → T Rho} {mt : Rho → T Bool} {me : Rho → T D}
theorem sl_comp (own : List (Str × Nat)) {vs : List Nat} (hv : own.map (·.2) = vs) (hc : X.calm = true) (hN : X.N.Nodup) (ok : BlkOk X.N X.env.scope scope own) (hi : SndI X tg it mi) (hg : ∀ s Hh C cl fp, SndGw (X.blk s Hh scope (compEnvC scope cl C X.env) fp) vs tg g) (ht : ∀ s Hh C cl fp, SndTs (X.blk s Hh scope (compEnvC scope cl C X.env) fp) ifs mt) (he : ∀ s Hh C cl fp, Snd (X.blk s Hh scope (compEnvC scope cl C X.env) fp) elt me)
    (hs : ∀ x, foldedSetIterable it X.env x = pure x := by intro _; rfl) : SndL X (.ListComp elt [⟨tg, it, ifs, 0⟩] scope pos) (lComp vs mi g mt me) := fun {_ _ _ _ _ _ _ _} I h =>
  ⟨_, pe_lc (g := bG X scope tg) (tt := bT X scope ifs) (te := bE X scope elt) hc hN pi_wp ok (fun s H C cl fp => ⟨fun pins s' σ H' v u Q I r h => pg_wp.run pins s' σ H' v u Q I r (h s H C cl fp)⟩) (fun s H C cl fp => ⟨fun pins s' σ H' Q I h => pts_wp.run pins s' σ H' Q I (h s H C cl fp)⟩)
    (fun s H C cl fp => ⟨fun pins s' σ H' Q I h => pe_wp.run pins s' σ H' Q I (h s H C cl fp)⟩) hs, by rw [hv]; exact lc_run hi hg ht he I h⟩
theorem ss_ownLc {i : Nat} {y : Str} {py spos : Pos} (own : List (Str × Nat)) {vs : List Nat} (hv : own.map (·.2) = vs) (hc : X.calm = true) (hN : X.N.Nodup) (ok : BlkOk X.N X.env.scope scope own) (hi : SndI X tg it mi) (hg : ∀ s Hh C cl fp, SndGw (X.blk s Hh scope (compEnvC scope cl C X.env) fp) vs tg g) (ht : ∀ s Hh C cl fp, SndTs (X.blk s Hh scope (compEnvC scope cl C X.env) fp) ifs mt) (he : ∀ s Hh C cl fp, Snd (X.blk s Hh scope (compEnvC scope cl C X.env) fp) elt me)
    (hsw : swapsWith (.ListComp elt [⟨tg, it, ifs, 0⟩] scope pos) (some (.Name y py)) spos.line X.env = pure true) (hy : X.N[i]? = some y := by rfl) (hyl : X.env.scope.names.lookup y = some .local := by rfl) (hs : ∀ x, foldedSetIterable it X.env x = pure x := by intro _; rfl) : SndS X (.Assign [.Name y py] (.ListComp elt [⟨tg, it, ifs, 0⟩] scope pos) spos) (sOwn i (lComp vs mi g mt me)) := fun {π N0 H0 N H σ ρ De} I h =>
  ⟨_, ps_setLc (g := bG X scope tg) (tt := bT X scope ifs) (te := bE X scope elt) hc hN hy hyl hsw pi_wp ok (fun s H C cl fp => ⟨fun pins s' σ H' v u Q I r h => pg_wp.run pins s' σ H' v u Q I r (h s H C cl fp)⟩) (fun s H C cl fp => ⟨fun pins s' σ H' Q I h => pts_wp.run pins s' σ H' Q I (h s H C cl fp)⟩)
    (fun s H C cl fp => ⟨fun pins s' σ H' Q I h => pe_wp.run pins s' σ H' Q I (h s H C cl fp)⟩) hs, by
    rw [hv]
    exact lc_run (Q := fun x H1 => De.nx (σ.set i (some x)) H1) hi hg ht he I (T.all_mono (fun ds hd => by intro l vs H2 e2 hl h2 r; exact hd _ _ _ (I.newAny e2 hl (by rw [h2]; exact fun z => by cases z) (.inl ⟨vs, ds, rfl, h2, r⟩))) (T.all_bind.mp h))⟩
/-! two or three names at once -/
def sPar (i j : Nat) (ma mb : Rho → T D) : Rho → T Out := fun ρ => (ma ρ).bind fun x => (mb ρ).bind fun y => .ret (.nx ((ρ.set i (.val x)).set j (.val y)))
def sPar3 (i j l : Nat) (ma mb mc : Rho → T D) : Rho → T Out := fun ρ => (ma ρ).bind fun x => (mb ρ).bind fun y => (mc ρ).bind fun z => .ret (.nx (((ρ.set i (.val x)).set j (.val y)).set l (.val z)))
theorem ss_par {i j : Nat} {x y : Str} {px py pt : Pos} {kt k2 pt2} (hc : X.calm = true) (hN : X.N.Nodup) (ha : Snd X a ma) (hb : Snd X b mb) (hij : i ≠ j := by decide) (hi : X.N[i]? = some x := by rfl) (hj : X.N[j]? = some y := by rfl)
    (hx : X.env.scope.names.lookup x = some .local := by rfl) (hy : X.env.scope.names.lookup y = some .local := by rfl)
    (hw : swappedStores [.Tuple [.Name x px, .Name y py] kt pt] (.Tuple [a, b] k2 pt2) X.env = pure (some [x, y]) := by rfl)
    (hs : swapsWithSole [.Tuple [.Name x px, .Name y py] kt pt] (.Tuple [a, b] k2 pt2) pos.line X.env = pure false := by rfl) (he : starEach [a, b] X.env = (false, eval a X.env) :: starEach [b] X.env := by rfl) (he2 : starEach [b] X.env = (false, eval b X.env) :: starEach [] X.env := by rfl) :
    SndS X (.Assign [.Tuple [.Name x px, .Name y py] kt pt] (.Tuple [a, b] k2 pt2) pos) (sPar i j ma mb) := fun {π N0 H0 N H σ ρ De} I h => ⟨_, ps_par hc hN hi hj hij hx hy (pa_cons pe_wp (pa_cons pe_wp pa_nil he2) he) hw hs, by
  refine ha I (T.all_mono (fun d hd => ?_) (T.all_bind.mp h))
  intro v H1 e1 r1
  refine hb (I.ext e1) (T.all_mono (fun d2 hd => ?_) (T.all_bind.mp hd))
  intro u H2 e2 r2
  exact ⟨v, u, rfl, hd _ _ _ ((((I.ext e1).ext e2).set (r1.mono e2.kp.hide)).set r2)⟩⟩
theorem ss_par3 {i j l : Nat} {x y z : Str} {px py pz pt : Pos} {kt k2 pt2} {mc : Rho → T D} (hc : X.calm = true) (hN : X.N.Nodup) (ha : Snd X a ma) (hb : Snd X b mb) (hcc : Snd X c mc) (hij : i ≠ j := by decide) (hil : i ≠ l := by decide) (hjl : j ≠ l := by decide) (hi : X.N[i]? = some x := by rfl) (hj : X.N[j]? = some y := by rfl) (hl : X.N[l]? = some z := by rfl)
    (hx : X.env.scope.names.lookup x = some .local := by rfl) (hy : X.env.scope.names.lookup y = some .local := by rfl) (hz : X.env.scope.names.lookup z = some .local := by rfl)
    (hw : swappedStores [.Tuple [.Name x px, .Name y py, .Name z pz] kt pt] (.Tuple [a, b, c] k2 pt2) X.env = pure (some [x, y, z]) := by rfl)
    (hs : swapsWithSole [.Tuple [.Name x px, .Name y py, .Name z pz] kt pt] (.Tuple [a, b, c] k2 pt2) pos.line X.env = pure false := by rfl) (he : starEach [a, b, c] X.env = (false, eval a X.env) :: starEach [b, c] X.env := by rfl) (he2 : starEach [b, c] X.env = (false, eval b X.env) :: starEach [c] X.env := by rfl) (he3 : starEach [c] X.env = (false, eval c X.env) :: starEach [] X.env := by rfl) :
    SndS X (.Assign [.Tuple [.Name x px, .Name y py, .Name z pz] kt pt] (.Tuple [a, b, c] k2 pt2) pos) (sPar3 i j l ma mb mc) := fun {π N0 H0 N H σ ρ De} I h => ⟨_, ps_par3 hc hN hi hj hl hij hil hjl hx hy hz (pa_cons pe_wp (pa_cons pe_wp (pa_cons pe_wp pa_nil he3) he2) he) hw hs, by
  refine ha I (T.all_mono (fun d hd => ?_) (T.all_bind.mp h))
  intro v H1 e1 r1
  refine hb (I.ext e1) (T.all_mono (fun d2 hd => ?_) (T.all_bind.mp hd))
  intro u H2 e2 r2
  refine hcc ((I.ext e1).ext e2) (T.all_mono (fun d3 hd => ?_) (T.all_bind.mp hd))
  intro t H3 e3 r3
  exact ⟨v, u, t, rfl, hd _ _ _ (((((I.ext e1).ext e2).ext e3).set (r1.mono (e2.trans e3).kp.hide)).set (r2.mono e3.kp.hide) |>.set r3)⟩⟩
/-! unary minus -/
def uNeg : D → T D
  | .int i => .ret (.int (-i))
  | _ => .fail
def eUn (f : D → T D) (ma : Rho → T D) : Rho → T D := fun ρ => (ma ρ).bind f
theorem s_neg (ha : Snd X a ma) : Snd X (.UnaryOp .USub a pos) (eUn uNeg ma) := fun {π N0 H0 N H σ ρ Q} I h => ⟨_, pe_un un_neg pe_wp, ha I (T.all_mono (fun d hd => by
  intro v H2 e2 r
  cases d with
  | int i => cases r; exact ⟨_, rfl, hd _ _ e2 (.int _)⟩
  | _ => exact False.elim hd) (T.all_bind.mp h))⟩
/-! f(k = v, ..) -/
def SndK (X : Cx) (kws : List Keyword) (ms : Rho → T (List D)) : Prop := ∀ ⦃π : Addr⦄ ⦃N0 : Addr → Bool⦄ ⦃H0 : Hp⦄ ⦃N : Addr → Bool⦄ ⦃H : Hp⦄ ⦃σ : L2.St⦄ ⦃ρ : Rho⦄ ⦃Q : List V → Hp → Prop⦄, EnvOk X.K X.prog X.w π N0 H0 N H σ ρ → (ms ρ).all (Ka X π N H Q) → ∃ t, PK X kws t ∧ t σ H Q
theorem sk_nil : SndK X [] aNil := fun {_ _ _ _ _ _ _ _} I h => ⟨_, pk_nil, h _ _ (Ex.refl I.hn.pot) .nil⟩
def wpK (X : Cx) (kws : List Keyword) : TA := fun σ H Q => ∃ t, PK X kws t ∧ t σ H Q
theorem pk_wp {kws : List Keyword} : PK X kws (wpK X kws) := ⟨fun pos pins s σ H Q I ⟨_, h, q⟩ => h.run pos pins s σ H Q I q⟩
theorem sk_cons {kws : List Keyword} {nm : Option Str} {kpos : Pos} {ms : Rho → T (List D)} (ha : Snd X e m) (hr : SndK X kws ms) : SndK X (⟨nm, e, kpos⟩ :: kws) (aCons m ms) := fun {_ _ _ _ _ _ _ _} I h =>
  ⟨_, pk_cons pe_wp pk_wp, by
    refine ha I (T.all_mono (fun dx hx => ?_) (T.all_bind.mp h))
    intro v H1 e1 r1
    refine hr (I.ext e1) (T.all_mono (fun dy hy => ?_) (T.all_bind.mp hx))
    intro vs H2 e2 r2
    exact hy _ _ (e1.trans e2) (.cons (r1.mono e2.kp.hide) r2)⟩
end
end Pd

namespace Pd
open PySem L2
section
variable {X : Cx} {pos : Pos}
theorem s_globI {x : Str} {v : Int} (h : ∃ t, X.mg x = some (.int v t)) (hg : Gl X x := by rfl) (hd : (x == ("__debug__" : Str)) = false := by decide) : Snd X (.Name x pos) (eC (.int v)) := fun {_ _ _ _ _ _ _ _} I q => by
  obtain ⟨t, h⟩ := h
  exact ⟨_, pe_glob hg h (v := .int v) ⟨t, rfl⟩ hd, q _ _ (Ex.refl I.hn.pot) (.int v)⟩
/-! isinstance -/
inductive Ty5 where
  | int | bool | str | tuple | list | non
def Ty5.nm : Ty5 → String
  | .int => "int"
  | .bool => "bool"
  | .str => "str"
  | .tuple => "tuple"
  | .list => "list"
  | .non => "NoneType"
def Ty5.sub : Ty5 → Ty5 → Bool
  | .int, .int => true
  | .bool, .bool => true
  | .bool, .int => true
  | .str, .str => true
  | .tuple, .tuple => true
  | .list, .list => true
  | .non, .non => true
  | _, _ => false
theorem kitB_sub (a b : Ty5) : kitB a.nm b.nm = some (Ty5.sub a b) := by
  cases a <;> cases b <;> decide +kernel
def tyD : D → Option Ty5
  | .non => some .non
  | .bl _ => some .bool
  | .int _ => some .int
  | .str _ => some .str
  | .tup _ => some .tuple
  | .lst _ => some .list
  | .dic _ => none
  | .pot => none
  | .ins _ _ => none
def isD (k : Ty5) (d : D) : T D := match tyD d with
  | some t => .ret (.bl (Ty5.sub t k))
  | none => .fail
theorem ty_of {K : PySem.W.Frag} {P : Program} {w : World} {π : Addr} {N : Addr → Bool} {H : Hp} {v : V} {d : D} {t : Ty5} (r : Rv K P w π (Hide N H) v d) (h : tyD d = some t) : TyX K H v (.type t.nm) := by
  cases r with
  | non => cases h; exact .base .non
  | bl b => cases h; exact .base (.bl b)
  | int b => cases h; exact .base (.int b)
  | str b => cases h; exact .base (.str b)
  | tup a n r => cases h; exact .base (.tup (hide_some a).2)
  | tupK a r =>
    cases h
    rcases a (fun _ => none) with (z | ⟨o, z⟩) | ⟨o, _, _, z1, z2, _⟩
    · cases z
    · cases z
    · exact .kTuple z1 z2
  | lst a n r => cases h; exact .base (.lst (hide_some a).2)
  | dic a n r => cases h
  | pot => cases h
  | ins _ _ _ _ => cases h
theorem s_isinst {e : Expr} {m : Rho → T D} {k : Ty5} {ty : Str} {p p2 : Pos} (hm : X.mg "isinstance" = none) (hmt : X.mg ty = none) (hb : bootBuiltins ty = some (.type k.nm)) (ha : Snd X e m) (hg : Gl X "isinstance" := by rfl) (hgt : Gl X ty := by rfl) (hbi : bootBuiltins "isinstance" = some (.builtin "isinstance") := by decide +kernel) (hn : ty ≠ "__name__" := by decide) (hd : (ty == ("__debug__" : Str)) = false := by decide)
    (he : starEach [e, .Name ty p] X.env = (false, eval e X.env) :: starEach [.Name ty p] X.env := by rfl) (he2 : starEach [.Name ty p] X.env = (false, eval (.Name ty p) X.env) :: starEach [] X.env := by rfl) (hpl : (backTo pos (starEach [.Name ty p] X.env)).any (·.1) = false := by rfl) :
    Snd X (.Call (.Name "isinstance" p2) [e, .Name ty p] [] pos) (eUn (isD k) m) := fun {π N0 H0 N H σ ρ Q} I h =>
  ⟨_, pe_callB call_isi hg hm hbi (pa_cons pe_wp (pa_cons (pe_bltn (v := .ty k.nm) hgt hmt hb rfl hn hd) pa_nil he2) he) (by decide) (by decide) he hpl, ha I (T.all_mono (fun d hd => by
    intro v H2 e2 r
    unfold isD at hd
    cases c : tyD d with
    | none => rw [c] at hd; exact False.elim hd
    | some t =>
      rw [c] at hd
      exact ⟨v, .ty k.nm, .type t.nm, .type k.nm, Ty5.sub t k, rfl, .ty _, ty_of r c, kit_ty (kitB_sub t k), hd _ _ e2 (.bl _)⟩) (T.all_bind.mp h))⟩
end
end Pd

/-! Dicts with nested keys. -/
namespace Pd
open PySem L2

section
variable {X : Cx} {π : Addr} {N : Addr → Bool} {H : Hp} {pins : List (Addr × Obj)} {σ : L2.St} {s : Shared}
mutual
theorem Rv.nested (I : Inv X pins σ H s) : ∀ {d : D} {v : V} {k : NestedKey} {u : Value}, Rv X.K X.prog X.w π (Hide N H) v d → d.nk = some k → RelV v u → NestedIs s.heap k u
  | _, _, _, _, .non, h, r => by cases h; cases r; exact .none
  | _, _, _, _, .bl b, h, r => by cases h; cases r; exact .bool rfl
  | _, _, _, _, .int i, h, r => by cases h; obtain ⟨t, rfl⟩ := r; exact .int i t
  | _, _, _, _, .str x, h, r => by cases h; obtain ⟨t, rfl⟩ := r; exact .text x t
  | .tup ds, _, k, _, .tup a n q, h, r => by
    unfold D.nk at h
    cases e : D.nks ds with
    | none => rw [e] at h; cases h
    | some ks =>
      rw [e] at h; cases h; cases r
      obtain ⟨its, rv, ⟨o, ho, hc, m, hd⟩, _⟩ := I.tuple (.inl (.inl (hide_some a).2))
      exact .tup ho hc hd (RvL.nested I q e (by simpa using rv))
  | .tup ds, _, k, _, .tupK a q, h, r => by
    unfold D.nk at h
    cases e : D.nks ds with
    | none => rw [e] at h; cases h
    | some ks =>
      rw [e] at h; cases h; cases r
      obtain ⟨its, rv, ⟨o, ho, hc, m, hd⟩, _⟩ := I.tuple (a H)
      exact .tup ho hc hd (RvL.nested I q e (by simpa using rv))
  | .lst _, _, _, _, _, h, _ => by unfold D.nk at h; cases h
  | .dic _, _, _, _, _, h, _ => by unfold D.nk at h; cases h
  | .pot, _, _, _, _, h, _ => by unfold D.nk at h; cases h
  | .ins _ _, _, _, _, _, h, _ => by unfold D.nk at h; cases h
theorem RvL.nested (I : Inv X pins σ H s) : ∀ {ds : List D} {vs : List V} {ks : List NestedKey} {us : List Value}, RvL X.K X.prog X.w π (Hide N H) vs ds → D.nks ds = some ks → Vals vs us → NestedAll s.heap ks us
  | _, _, _, _, .nil, h, r => by unfold D.nks at h; cases h; cases r; exact .nil
  | d :: ds, _, ks, _, .cons q t, h, r => by
    unfold D.nks at h
    cases e : D.nk d with
    | none => rw [e] at h; cases h
    | some k =>
      rw [e] at h
      cases e2 : D.nks ds with
      | none => rw [e2] at h; cases h
      | some ks' =>
        rw [e2] at h; cases h
        cases r with
        | cons r1 r2 => exact .cons (Rv.nested I q e r1) (RvL.nested I t e2 r2)
end
end

/-! ### entries by keys -/
def putX {α : Type} : List (NestedKey × Addr × α) → NestedKey → Addr → α → List (NestedKey × Addr × α)
  | [], k, a, v => [(k, a, v)]
  | x :: r, k, a, v => if x.1 = k then (x.1, x.2.1, v) :: r else x :: putX r k a v
def valX : List (NestedKey × Addr × V) → NestedKey → Option V
  | [], _ => none
  | x :: r, k => if x.1 = k then some x.2.2 else valX r k
theorem stored_rec {k : NestedKey} {a : Addr} {v : Value} : ∀ {ys : List (NestedKey × Addr × Value)}, (ys.map (·.1)).Nodup → storedH ys k a v = putX ys k a v
  | [], _ => by simp [storedH, atKey, putX]
  | y :: r, hn => by
    rw [List.map_cons, List.nodup_cons] at hn
    by_cases e : y.1 = k
    · have at' : (atKey (y :: r) k).isSome = true := by simp [atKey, e]
      unfold storedH putX
      rw [if_pos at', if_pos e, List.map_cons]
      congr 1
      · unfold putAt; rw [if_pos e]
      · refine (List.map_congr_left (g := id) fun x hx => ?_).trans (List.map_id r)
        unfold putAt
        rw [if_neg (fun z => hn.1 (by rw [e, ← z]; exact List.mem_map_of_mem hx))]
        rfl
    · have ih := stored_rec (k := k) (a := a) (v := v) hn.2
      unfold putX
      rw [if_neg e, ← ih]
      have at' : atKey (y :: r) k = atKey r k := by simp [atKey, e]
      unfold storedH
      rw [at']
      split
      · rw [List.map_cons]; congr 1; unfold putAt; rw [if_neg e]
      · rfl

def hasK (k : NestedKey) (d : D) : Bool := match d.nk with
  | some k' => NestedKey.beq k' k
  | none => false
def dAt : List (D × D) → NestedKey → Option D
  | [], _ => none
  | x :: r, k => cond (hasK k x.1) (some x.2) (dAt r k)
def dPut : List (D × D) → NestedKey → D → D → List (D × D)
  | [], _, dk, dv => [(dk, dv)]
  | x :: r, k, dk, dv => cond (hasK k x.1) ((x.1, dv) :: r) (x :: dPut r k dk dv)
theorem hasK_eq {k k' : NestedKey} {d : D} (h : d.nk = some k') : hasK k d = decide (k' = k) := by
  unfold hasK
  rw [h, NestedKey.decide_eq]

abbrev PX : List (NestedKey × Addr × V) → List (NestedKey × Addr × Value) → Prop := Paired fun p q => p.1 = q.1 ∧ p.2.1 = q.2.1 ∧ RelV p.2.2 q.2.2
theorem PX.val {k : NestedKey} {xs : List (NestedKey × Addr × V)} {ys : List (NestedKey × Addr × Value)} (r : PX xs ys) : RelO (valX xs k) ((atKey ys k).map (·.2)) := by
  induction r with
  | nil => exact True.intro
  | @cons p q ps qs h t ih =>
    obtain ⟨h1, h2, h3⟩ := h
    by_cases e : p.1 = k
    · have e2 : q.1 = k := by rw [← h1]; exact e
      simp only [valX, atKey, e, e2, if_true, List.find?_cons, decide_true, Option.map_some]
      exact h3
    · have e2 : ¬ q.1 = k := by rw [← h1]; exact e
      have z : atKey (q :: qs) k = atKey qs k := by simp [atKey, e2]
      rw [z]
      simp only [valX, if_neg e]
      exact ih
theorem PX.put {k : NestedKey} {a : Addr} {v : V} {u : Value} (rv : RelV v u) {xs : List (NestedKey × Addr × V)} {ys : List (NestedKey × Addr × Value)} (r : PX xs ys) : PX (putX xs k a v) (putX ys k a u) := by
  induction r with
  | nil => exact .cons ⟨rfl, rfl, rv⟩ .nil
  | @cons p q ps qs h t ih =>
    by_cases e : p.1 = k
    · have e2 : q.1 = k := by rw [← h.1]; exact e
      unfold putX
      rw [if_pos e, if_pos e2]
      exact .cons ⟨h.1, h.2.1, rv⟩ t
    · have e2 : ¬ q.1 = k := by rw [← h.1]; exact e
      unfold putX
      rw [if_neg e, if_neg e2]
      exact .cons h ih
theorem PX.keys {xs : List (NestedKey × Addr × V)} {ys : List (NestedKey × Addr × Value)} (r : PX xs ys) : xs.map (·.1) = ys.map (·.1) := by
  induction r with
  | nil => rfl
  | cons h t ih => rw [List.map_cons, List.map_cons, h.1, ih]
theorem putX_len {α : Type} {k : NestedKey} {a : Addr} {v : α} : ∀ {xs : List (NestedKey × Addr × α)}, (putX xs k a v).length ≤ xs.length + 1
  | [] => Nat.le_refl _
  | x :: r => by
    unfold putX
    split
    · simp
    · have := putX_len (k := k) (a := a) (v := v) (xs := r)
      simp; exact this
section
variable {K : PySem.W.Frag} {P : Program} {w : World} {π : Addr} {H : Hp}
theorem RvD.length : ∀ {kvs : List (D × D)} {xs : List (NestedKey × Addr × V)}, RvD K P w π H xs kvs → xs.length = kvs.length
  | _, _, .nil => rfl
  | _, _, .cons _ _ _ _ t => congrArg Nat.succ (RvD.length t)
theorem RvD.val {k : NestedKey} : ∀ {kvs : List (D × D)} {xs : List (NestedKey × Addr × V)}, RvD K P w π H xs kvs → match dAt kvs k with
    | some d => ∃ v, valX xs k = some v ∧ Rv K P w π H v d
    | none => valX xs k = none
  | _, _, .nil => rfl
  | _, _, .cons (k := k') (dk := dk) e dp rk r t => by
    have ih := RvD.val (k := k) t
    unfold dAt valX
    rw [hasK_eq e]
    by_cases q : k' = k
    · simp only [q, decide_true, cond_true, if_true]
      exact ⟨_, rfl, r⟩
    · simp only [q, decide_false, cond_false, if_false]
      exact ih
theorem RvD.put {k : NestedKey} {a : Addr} {v : V} {dk dv : D} (e : dk.nk = some k) (dp : k.depth ≤ 8) (rk : Rv K P w π H (.ref a) dk) (rv : Rv K P w π H v dv) : ∀ {kvs : List (D × D)} {xs : List (NestedKey × Addr × V)}, RvD K P w π H xs kvs → RvD K P w π H (putX xs k a v) (dPut kvs k dk dv)
  | _, _, .nil => .cons e dp rk rv .nil
  | _, _, .cons (k := k') e' dp' rk' r t => by
    have ih := RvD.put e dp rk rv t
    unfold putX dPut
    rw [hasK_eq e']
    by_cases q : k' = k
    · simp only [q, decide_true, cond_true, if_true]
      subst q
      exact .cons e' dp' rk' rv t
    · simp only [q, decide_false, cond_false, if_false]
      exact .cons e' dp' rk' r ih
theorem RvD.get : ∀ {kvs : List (D × D)} {xs : List (NestedKey × Addr × V)} {i : Nat} {p : D × D}, RvD K P w π H xs kvs → kvs[i]? = some p → ∃ k a v, xs[i]? = some (k, a, v) ∧ Rv K P w π H (.ref a) p.1 ∧ Rv K P w π H v p.2
  | _, _, _, _, .nil, e => by simp at e
  | _, _, 0, _, .cons _ _ rk r _, e => by simp at e; subst e; exact ⟨_, _, _, rfl, rk, r⟩
  | _, _, i + 1, _, .cons _ _ _ _ t, e => RvD.get (i := i) t e
end

section
variable {X : Cx} {π : Addr} {N : Addr → Bool} {H : Hp} {pins : List (Addr × Obj)} {σ : L2.St} {s : Shared}
/-- the entries' keys are keys -/
theorem RvD.keys (I : Inv X pins σ H s) : ∀ {kvs : List (D × D)} {xs : List (NestedKey × Addr × V)} {ys : List (NestedKey × Addr × Value)}, RvD X.K X.prog X.w π (Hide N H) xs kvs → PX xs ys → ∀ y ∈ ys, (nestedKind X.prog X.w).is s.heap y.1 y.2.1
  | _, _, _, .nil, .nil => fun _ h => nomatch h
  | _, _, _, .cons e dp rk r t, .cons h p => fun y hy => by
    rcases List.mem_cons.mp hy with z | z
    · subst z
      have h1 : _ = y.1 := h.1
      have h2 : _ = y.2.1 := h.2.1
      rw [← h1, ← h2]
      exact ⟨Rv.nested I rk e rfl, dp⟩
    · exact RvD.keys I t p y z
def KeyAt (X : Cx) (H : Hp) (b : Addr) (k : NestedKey) : Prop := k.depth ≤ 8 ∧ ∃ (π : Addr) (N : Addr → Bool) (d : D), Rv X.K X.prog X.w π (Hide N H) (.ref b) d ∧ d.nk = some k
def EntAt (X : Cx) (H : Hp) (xs : List (NestedKey × Addr × V)) : Prop := ∃ (π : Addr) (N : Addr → Bool) (kvs : List (D × D)), RvD X.K X.prog X.w π (Hide N H) xs kvs
theorem KeyAt.is (I : Inv X pins σ H s) {b : Addr} {k : NestedKey} (h : KeyAt X H b k) : (nestedKind X.prog X.w).is s.heap k b := let ⟨dp, _, _, _, r, e⟩ := h; ⟨Rv.nested I r e rfl, dp⟩
theorem dn_of (I : Inv X pins σ H s) {a : Addr} {xs : List (NestedKey × Addr × V)} (h : Rd H a (DN X.prog X.w a xs)) (en : EntAt X H xs) : (a == sysModules) = false ∧ xs.length ≤ sizeLine ∧ ∃ ys, PX xs ys ∧ s.heap.DictOfH (nestedKind X.prog X.w) a ys := by
  obtain ⟨π, N, kvs, rd⟩ := en
  have ok : ObjOk X.prog X.w H s.heap a (DN X.prog X.w a xs) := rd_of I.hok h
  obtain ⟨⟨h1, h2, h3, ys, pr, o, es, ep, ho, hc, hd, he⟩, _⟩ := ok
  exact ⟨h1, h2, ys, pr, o, es, ep, ho, hc, hd, he, RvD.keys I rd pr, by rw [← PX.keys pr]; exact h3⟩
theorem dn_ok {P : Program} {w : World} {H' : Hp} {h : Heap} {a : Addr} {xs : List (NestedKey × Addr × V)} {ys : List (NestedKey × Addr × Value)} (h1 : (a == sysModules) = false) (h2 : xs.length ≤ sizeLine) (pr : PX xs ys) (dd : h.DictOfH (nestedKind P w) a ys) : ObjOk P w H' h a (DN P w a xs) := by
  obtain ⟨o, es, ep, ho, hc, hd, he, _, hn⟩ := dd
  refine ⟨⟨h1, h2, by rw [PX.keys pr]; exact hn, ys, pr, o, es, ep, ho, hc, hd, he⟩, ⟨o, ho⟩, fun g1 g2 hg k => ?_⟩
  obtain ⟨x1, x2, x3, ys, pr, o, es, ep, ho, r⟩ := hg
  exact ⟨x1, x2, x3, ys, pr, o, es, ep, k _ ho, r⟩
/-- d[k] -/
theorem dn_getItem {A : Around} {E : Value → Shared → Prop} {a b : Addr} {xs : List (NestedKey × Addr × V)} {k : NestedKey} {v : V} {Q : Value → Shared → Prop} (hu : A.units + 64 < cLine) (I : Inv X pins σ H s) (h : Rd H a (DN X.prog X.w a xs)) (en : EntAt X H xs) (kk : KeyAt X H b k) (hv : valX xs k = some v)
    (hq : ∀ w' s', Inv X pins σ H s' → RelV v w' → Q w' s') : wpAny (model X.prog X.w) A (getItem (.ref a) (.ref b)) Q E s := by
  obtain ⟨h1, h2, ys, pr, dd⟩ := dn_of I h en
  obtain ⟨w', hw, rw'⟩ := RelO.some_of (v := v) (o := (atKey ys k).map (·.2)) (by rw [← hv]; exact pr.val)
  obtain ⟨p, hp, hp2⟩ := Option.map_eq_some_iff.mp hw
  refine wpAny_getItem_heap (knd := nestedKind X.prog X.w) (by show A.in1.units + 8 < cLine; rw [Around.in1_units]; omega) (kk.is I) dd hp ?_
  rw [hp2]
  exact hq w' _ (I.tok _) rw'
/-- d.get(k, x) -/
theorem dn_get2 {A : Around} {E : Value → Shared → Prop} {a b : Addr} {xs : List (NestedKey × Addr × V)} {k : NestedKey} {z : V} {r : Value} {Q : Value → Shared → Prop} (hu : A.units + 64 < cLine) (I : Inv X pins σ H s) (h : Rd H a (DN X.prog X.w a xs)) (en : EntAt X H xs) (kk : KeyAt X H b k) (rz : RelV z r)
    (hq : ∀ w' s', Inv X pins σ H s' → RelV ((valX xs k).getD z) w' → Q w' s') : wpAny (model X.prog X.w) A (call (.builtin "dict.get") [.ref a, .ref b, r]) Q E s := by
  obtain ⟨h1, h2, ys, pr, dd⟩ := dn_of I h en
  refine call_meetsIn PySem.F.slot_dict_get dd.typeIs PySem.F.entry_dict_get (PySem.F.args_dict_get_3 _ _ _) (meetsH_dict_get_default (nestedKind X.prog X.w) a b h1 r) ⟨by show A.in1.units + 8 < cLine; rw [Around.in1_units]; omega, k, ys, kk.is I, dd, hq _ _ (I.tok _) ?_⟩
  exact (pr.val (k := k)).getD rz
/-- d[k] = v -/
theorem dn_setItem {A : Around} {E : Value → Shared → Prop} {a b : Addr} {xs : List (NestedKey × Addr × V)} {k : NestedKey} {v : V} {r : Value} {Q : Unit → Shared → Prop} (hu : A.units + 64 < cLine) (I : Inv X pins σ H s) (h : H a = some (DN X.prog X.w a xs)) (en : EntAt X H xs) (kk : KeyAt X H b k) (hz : xs.length < sizeLine) (rv : RelV v r)
    (hq : ∀ s', Inv X pins σ (upd H a (DN X.prog X.w a (putX xs k b v))) s' → Q () s') : wpAny (model X.prog X.w) A (setItem (.ref a) (.ref b) r) Q E s := by
  obtain ⟨h1, h2, ys, pr, dd⟩ := dn_of I (.inl h) en
  have hl : ys.length = xs.length := (Paired.length pr).symm
  have hn : (ys.map (·.1)).Nodup := by obtain ⟨_, _, _, _, _, _, _, _, q⟩ := dd; exact q
  refine wpAny_setItem_heap (knd := nestedKind X.prog X.w) (hsz := by rw [hl]; exact h2) (by show A.in1.units + 8 < cLine; rw [Around.in1_units]; omega) (kk.is I) dd fun h' dd' hs => hq _ ?_
  have he : ∃ q, h'.get? a = some q := let ⟨q, _, _, e, _⟩ := dd'; ⟨q, e⟩
  rw [stored_rec hn] at dd'
  refine d_write I (by rw [h]; exact True.intro) hs he (dn_ok h1 ?_ (pr.put rv) dd')
  have := putX_len (k := k) (a := b) (v := v) (xs := xs)
  omega
end
end Pd

/-! Dicts with nested keys: the rules. -/
namespace Pd
open PySem L2

theorem dn_empty {P : Program} {w : World} {H : Hp} (h : Heap) (hb : sysModules < h.objs.size) : ObjOk P w H (h.push { cls := .type "dict", data := .dict #[] }) h.objs.size (DN P w h.objs.size []) :=
  dn_ok (beq_eq_false_iff_ne.mpr (Ne.symm (Nat.ne_of_lt hb))) (Nat.zero_le _) .nil (Heap.DictOfH.new h)
section
variable {X : Cx} {π : Addr} {N0 N : Addr → Bool} {H0 H : Hp} {pins : List (Addr × Obj)} {σ : L2.St} {ρ : Rho} {s : Shared} {pos : Pos} {a b ke ve e f : Expr} {m mk mv ma mb : Rho → T D}
theorem pe_dnewN : PE X (.Dict [] [] pos) (fun _ H Q => ∀ p, H p = none → Q (.ref p) (upd H p (DN X.prog X.w p []))) := ⟨fun pins s σ H Q I h =>
  wpAny_Dict_empty ⟨.ref s.heap.objs.size, _, I.laid (a := s.heap.objs.size) (o := DN X.prog X.w s.heap.objs.size []) (t' := s.toks) (fun _ _ q => Heap.get?_push_of_some _ q) (Nat.le_refl _) (dn_empty s.heap I.big), rfl, h _ (I.hok.fresh (Nat.le_refl _))⟩⟩
def sOwnD (i : Nat) : Rho → T Out := fun ρ => .ret (.nx (ρ.set i (.ownD [])))
theorem ss_ownD {i : Nat} {x : Str} {pos' pd : Pos} (hN : X.N.Nodup) (hi : X.N[i]? = some x := by rfl) (hx : Loc X.env.scope x := by first | exact .inl rfl | exact .inr rfl) (hs : swapsWith (.Dict [] [] pd) (some (.Name x pos')) pos.line X.env = pure false := by rfl) (hf : X.fn x = true ∨ X.env.scope.names.lookup x = some .local := by first | exact .inl rfl | exact .inr rfl) :
    SndS X (.Assign [.Name x pos'] (.Dict [] [] pd) pos) (sOwnD i) := fun {π N0 H0 N H σ ρ De} I h => ⟨_, ps_set hN hi hx pe_dnewN hs hf, fun p hp => by
  have e := Ex.new (o := DN X.prog X.w p []) I.hn.pot hp
  exact h _ _ _ (I.newAny e hp (by rw [upd_same]; exact fun z => by cases z) (.inr ⟨[], [], rfl, upd_same, .nil⟩))⟩

/-- a key's data -/
def keyD (d : D) : Option NestedKey := match d with
  | .tup ds => match D.nk (.tup ds) with
    | some k => cond (decide (k.depth ≤ 8)) (some k) none
    | none => none
  | _ => none
theorem keyD_of {d : D} {k : NestedKey} (h : keyD d = some k) : ∃ ds, d = .tup ds ∧ d.nk = some k ∧ k.depth ≤ 8 := by
  unfold keyD at h
  split at h
  · rename_i ds
    split at h
    · rename_i k' e
      cases c : decide (k'.depth ≤ 8) with
      | true => rw [c] at h; cases h; exact ⟨ds, rfl, e, of_decide_eq_true c⟩
      | false => rw [c] at h; cases h
    · cases h
  · cases h
def withKey {α : Type} (d : D) (f : NestedKey → T α) : T α := match keyD d with
  | some k => f k
  | none => .fail
theorem withKey_all {α : Type} {P : α → Prop} {d : D} {f : NestedKey → T α} (h : (withKey d f).all P) : ∃ ds k, d = .tup ds ∧ d.nk = some k ∧ k.depth ≤ 8 ∧ (f k).all P := by
  unfold withKey at h
  split at h
  · obtain ⟨ds, e, e2, dp⟩ := keyD_of (by assumption)
    exact ⟨ds, _, e, e2, dp, h⟩
  · exact False.elim h
def sPut (i : Nat) (mk mv : Rho → T D) : Rho → T Out := fun ρ => match ρ[i]? with
  | some (.ownD kvs) => (mv ρ).bind fun dv => (mk ρ).bind fun dk => withKey dk fun k => cond (decide (kvs.length ≤ 100000)) (.ret (.nx (ρ.set i (.ownD (dPut kvs k dk dv))))) .fail
  | _ => .fail
theorem ps_putN {i : Nat} {x : Str} {p pos' : Pos} (hu : X.A.units + 64 < cLine) (hN : X.N[i]? = some x) (hv : Vis X.env.scope x) (hd : (x == ("__debug__" : Str)) = false) (hcd : (x == ("__classdict__" : Str)) = false) (hs : swapsWith ve (some (.Subscript (.Name x p) ke pos')) pos.line X.env = pure false) :
    PS X (.Assign [.Subscript (.Name x p) ke pos'] ve pos) (fun De σ H => wpE X ve σ H fun v H1 => ∃ l, σ[i]? = some (some (.ref l)) ∧ wpE X ke σ H1 fun y H2 => ∃ b xs k, y = .ref b ∧ H2 l = some (DN X.prog X.w l xs) ∧ EntAt X H2 xs ∧ KeyAt X H2 b k ∧ xs.length < sizeLine ∧ De.nx σ (upd H2 l (DN X.prog X.w l (putX xs k b v)))) := by
  refine ⟨fun pins s σ H D I h => ?_⟩
  refine wpAny_Assign_Subscript (thn (pe_wp.run pins s σ H _ I h) fun r s1 ⟨v, H1, I1, rv, l, hl, q1⟩ => thn ((pe_var hN hv hd hcd).run pins s1 σ H1 (fun x H2 => x = .ref l ∧ H2 = H1) I1 ⟨_, hl, rfl, rfl⟩) fun u s2 ⟨x, H2, I2, rx, ex, eH⟩ => ?_) hs
  subst ex eH
  refine thn (pe_wp.run pins s2 σ H2 _ I2 q1) fun iv s3 ⟨y, H3, I3, ry, b, xs, k, ey, hd, en, kk, hz, q3⟩ => ?_
  subst ey
  obtain rfl : u = Value.ref l := rx
  obtain rfl : iv = Value.ref b := ry
  exact dn_setItem hu I3 hd en kk hz rv fun s4 I4 => ⟨σ, _, I4, q3⟩
theorem ss_put (i : Nat) {x : Str} {p pos' : Pos} (hu : X.A.units + 64 < cLine) (hve : Snd X ve mv) (hke : Snd X ke mk) (hN : X.N[i]? = some x := by rfl) (hv : Vis X.env.scope x := by first | exact Or.inl rfl | exact Or.inr (Or.inl rfl) | exact Or.inr (Or.inr rfl)) (hd : (x == ("__debug__" : Str)) = false := by decide)
    (hcd : (x == ("__classdict__" : Str)) = false := by decide) (hs : swapsWith ve (some (.Subscript (.Name x p) ke pos')) pos.line X.env = pure false := by rfl) : SndS X (.Assign [.Subscript (.Name x p) ke pos'] ve pos) (sPut i mk mv) := fun {π N0 H0 N H σ ρ De} I h => ⟨_, ps_putN hu hN hv hd hcd hs, by
  unfold sPut at h
  split at h
  · rename_i kvs c
    refine hve I (T.all_mono (fun dv hdv => ?_) (T.all_bind.mp h))
    intro v H1 e1 r1
    have I1 := I.ext e1
    obtain ⟨l, xs, hs1, nl, n0, hl, rl⟩ := I1.dic i kvs c
    refine ⟨l, hs1, hke I1 (T.all_mono (fun dk hdk => ?_) (T.all_bind.mp hdv))⟩
    intro y H2 e2 r2
    obtain ⟨ds, k, rfl, e, dp, hdk⟩ := withKey_all hdk
    obtain ⟨hsm, hdk⟩ := cond_all hdk
    obtain ⟨b, vs, rfl, hb, rb⟩ := id r2.tupE
    have hl2 := e2.kp l _ (N_ne I1.hn nl) hl
    have rl2 := rl.mono e2.kp.hide
    refine ⟨b, xs, k, rfl, hl2, ⟨_, _, _, rl2⟩, ⟨dp, _, _, _, r2, e⟩, ?_, ?_⟩
    · rw [rl.length]
      exact Nat.lt_of_le_of_lt (of_decide_eq_true hsm) (by decide)
    · exact hdk _ _ _ ((I1.ext e2).upAny c rfl hs1 nl n0 (.inr ⟨_, _, rfl, rfl, RvD.put e dp r2 (r1.mono e2.kp.hide) rl2⟩))
  · exact False.elim h⟩
/-! d.get(k, x) of an own dict -/
def getOwn (i : Nat) (mk mx : Rho → T D) : Rho → T D := fun ρ => match ρ[i]? with
  | some (.ownD kvs) => (mk ρ).bind fun dk => (mx ρ).bind fun dx => withKey dk fun k => .ret ((dAt kvs k).getD dx)
  | _ => .fail
theorem dn_noDict {H : Hp} {a : Addr} {xs : List (NestedKey × Addr × V)} (I : Inv X pins σ H s) (h : Rd H a (DN X.prog X.w a xs)) (en : EntAt X H xs) : s.TypeIs (.ref a) "dict" ∧ ∀ b, Value.ref a = .ref b → ∃ ob, s.heap.get? b = some ob ∧ ob.dict = none := by
  obtain ⟨_, _, ys, _, dd⟩ := dn_of I h en
  refine ⟨dd.typeIs, fun b q => ?_⟩
  cases q
  obtain ⟨o, es, ep, ho, hc, _⟩ := dd
  exact ⟨o, ho, hc.2.1⟩
theorem pe_getN {i : Nat} {x : Str} {p apos cpos : Pos} (hu : X.A.units + 64 < cLine) (hN : X.N[i]? = some x) (hv : Vis X.env.scope x) (hd : (x == ("__debug__" : Str)) = false) (hcd : (x == ("__classdict__" : Str)) = false) (m : M2 X (.Name x p) "get" apos e f cpos) :
    PE X (.Call (.Attribute (.Name x p) "get" apos) [e, f] [] cpos) (fun σ H Q => ∃ l xs, σ[i]? = some (some (.ref l)) ∧ Rd H l (DN X.prog X.w l xs) ∧ EntAt X H xs ∧ wpE X e σ H fun y H2 => wpE X f σ H2 fun z H3 => ∃ b k, y = .ref b ∧ Rd H3 l (DN X.prog X.w l xs) ∧ EntAt X H3 xs ∧ KeyAt X H3 b k ∧ Q ((valX xs k).getD z) H3) := by
  refine ⟨fun pins s σ H Q I h => ?_⟩
  obtain ⟨l, xs, hl, h1, en, q1⟩ := h
  refine wpAny_Call_method m.base m.few m.line PySem.F.plainAttrs_dict PySem.F.slot_dict_get PySem.F.type_dict_get (thn ((pe_var hN hv hd hcd).run pins s σ H (fun x H2 => x = .ref l ∧ H2 = H) I ⟨_, hl, rfl, rfl⟩) fun u s1 ⟨x, H1, I1, rx, ex, eH⟩ => ?_)
  subst ex eH
  obtain rfl : u = Value.ref l := rx
  obtain ⟨t1, t2⟩ := dn_noDict I1 h1 en
  refine ⟨t1, t2, ?_⟩
  rw [m.trees]
  refine Calls.callWith_builtin rfl (Calls.evalArgs_plain (Calls.spliced_cons (thn (pe_wp.run pins s1 σ H1 _ I1 q1) fun iv s2 ⟨y, H2, I2, ry, q2⟩ =>
    Calls.spliced_cons (thn (pe_wp.run pins s2 σ H2 _ I2 q2) fun fv s3 ⟨z, H3, I3, rz, b, k, ey, h3, en3, kk, q3⟩ => Calls.spliced_nil ?_))))
  subst ey
  obtain rfl : iv = Value.ref b := ry
  exact dn_get2 hu I3 h3 en3 kk rz fun w' s4 I4 rw' => ⟨_, H3, I4, rw', q3⟩
theorem s_getOwn (i : Nat) {x : Str} {p apos cpos : Pos} (hu : X.A.units + 64 < cLine) (hke : Snd X e mk) (hxe : Snd X f mv) (hN : X.N[i]? = some x := by rfl) (hv : Vis X.env.scope x := by first | exact Or.inl rfl | exact Or.inr (Or.inl rfl) | exact Or.inr (Or.inr rfl)) (hd : (x == ("__debug__" : Str)) = false := by decide)
    (hcd : (x == ("__classdict__" : Str)) = false := by decide) (m : M2 X (.Name x p) "get" apos e f cpos := by exact ⟨rfl, rfl, rfl, rfl⟩) : Snd X (.Call (.Attribute (.Name x p) "get" apos) [e, f] [] cpos) (getOwn i mk mv) := fun {π N0 H0 N H σ ρ Q} I h => ⟨_, pe_getN hu hN hv hd hcd m, by
  unfold getOwn at h
  split at h
  · rename_i kvs c
    obtain ⟨l, xs, hs1, nl, n0, hl, rl⟩ := I.dic i kvs c
    refine ⟨l, xs, hs1, .inl hl, ⟨_, _, _, rl⟩, hke I (T.all_mono (fun dk hdk => ?_) (T.all_bind.mp h))⟩
    intro y H1 e1 r1
    refine hxe (I.ext e1) (T.all_mono (fun dx hdx => ?_) (T.all_bind.mp hdk))
    intro z H2 e2 r2
    obtain ⟨ds, k, rfl, ek, dp, hdx⟩ := withKey_all hdx
    obtain ⟨b, vs, rfl, hb, rb⟩ := id r1.tupE
    have e12 := e1.trans e2
    have rl2 := rl.mono e12.kp.hide
    refine ⟨b, k, rfl, .inl (e12.kp l _ (N_ne I.hn nl) hl), ⟨_, _, _, rl2⟩, ⟨dp, _, _, _, r1.mono e2.kp.hide, ek⟩, ?_⟩
    have hv := RvD.val (k := k) rl2
    cases q : dAt kvs k with
    | none =>
      rw [q] at hv hdx
      have hv : valX xs k = none := hv
      rw [hv]
      exact hdx z H2 e12 r2
    | some d =>
      rw [q] at hv hdx
      obtain ⟨v, hv, rv⟩ := (show ∃ v, valX xs k = some v ∧ Rv X.K X.prog X.w π (Hide N H2) v d from hv)
      rw [hv]
      exact hdx v H2 e12 rv
  · exact False.elim h⟩
/-! d[k] of a dict that is a value -/
def dGet : D → D → T D := fun d dk => match d with
  | .dic kvs => withKey dk fun k => match dAt kvs k with
    | some d => .ret d
    | none => .fail
  | _ => .fail
theorem pe_dgetN (hu : X.A.units + 64 < cLine) (hs : NoSl b) : PE X (.Subscript a b pos) (fun σ H Q => wpE X a σ H fun x H1 => wpE X b σ H1 fun y H2 => ∃ l xs c k v, x = .ref l ∧ y = .ref c ∧ Rd H2 l (DN X.prog X.w l xs) ∧ EntAt X H2 xs ∧ KeyAt X H2 c k ∧ valX xs k = some v ∧ Q v H2) := by
  refine ⟨fun pins s σ H Q I h => ?_⟩
  refine subD_of PySem.F.slot_dict_getitem.lookup hs (thn (pe_wp.run pins s σ H _ I h) fun u s1 ⟨x, H1, I1, rx, q1⟩ => thn (pe_wp.run pins s1 σ H1 _ I1 q1) fun iv s2 ⟨y, H2, I2, ry, l, xs, c, k, v, ex, ey, hr, en, kk, hv, q2⟩ => ?_)
  subst ex ey
  obtain rfl : u = Value.ref l := rx
  obtain rfl : iv = Value.ref c := ry
  exact ⟨(dn_noDict I2 hr en).1, dn_getItem hu I2 hr en kk hv fun w' s3 I3 rw' => ⟨v, H2, I3, rw', q2⟩⟩
theorem Rv.dicE {K : PySem.W.Frag} {P : Program} {w : World} {π : Addr} {N : Addr → Bool} {H : Hp} {v : V} {kvs : List (D × D)} (r : Rv K P w π (Hide N H) v (.dic kvs)) : ∃ a od xs, v = .ref a ∧ H a = some (.frz od (DN P w a xs)) ∧ N a = false ∧ a ≠ π ∧ RvD K P w π (Hide N H) xs kvs := by
  cases r with
  | dic h n r => exact ⟨_, _, _, rfl, (hide_some h).2, (hide_some h).1, n, r⟩
theorem s_dGet (hu : X.A.units + 64 < cLine) (ha : Snd X a ma) (hb : Snd X b mb) (hs : NoSl b) : Snd X (.Subscript a b pos) (eBin dGet ma mb) := fun {π N0 H0 N H σ ρ Q} I h => ⟨_, pe_dgetN hu hs, by
  refine ha I (T.all_mono (fun dx hx => ?_) (T.all_bind.mp h))
  intro v H1 e1 r1
  refine hb (I.ext e1) (T.all_mono (fun dy hy => ?_) (T.all_bind.mp hx))
  intro u H2 e2 r2
  unfold dGet at hy
  split at hy
  · rename_i kvs
    obtain ⟨ds, k, rfl, ek, dp, hy⟩ := withKey_all hy
    obtain ⟨l, od, xs, rfl, hl, _, _, rl⟩ := (r1.mono e2.kp.hide).dicE
    obtain ⟨c, vs, rfl, hb, rb⟩ := id r2.tupE
    have hv := RvD.val (k := k) rl
    cases q : dAt kvs k with
    | none => rw [q] at hy; exact False.elim hy
    | some d =>
      rw [q] at hv hy
      obtain ⟨v, hv, rv⟩ := (show ∃ v, valX xs k = some v ∧ Rv X.K X.prog X.w π (Hide N H2) v d from hv)
      exact ⟨l, xs, c, k, v, rfl, rfl, .inr ⟨_, hl⟩, ⟨_, _, _, rl⟩, ⟨dp, _, _, _, r2, ek⟩, hv, hy v H2 (e1.trans e2) rv⟩
  · exact False.elim hy⟩
/-! {k: v} -/
def eDict1 (mk mv : Rho → T D) : Rho → T D := fun ρ => (mk ρ).bind fun dk => (mv ρ).bind fun dv => withKey dk fun _ => .ret (.dic [(dk, dv)])
theorem pe_dict1 (hu : X.A.units + 64 < cLine) : PE X (.Dict [some ke] [ve] pos) (fun σ H Q => ∀ p, H p = none → wpE X ke σ (upd H p (DN X.prog X.w p [])) fun y H1 => wpE X ve σ H1 fun v H2 => ∃ b k, y = .ref b ∧ KeyAt X H2 b k ∧ H2 p = some (DN X.prog X.w p []) ∧ ∀ od, Q (.ref p) (upd H2 p (.frz od (DN X.prog X.w p [(k, b, v)])))) := by
  refine ⟨fun pins s σ H Q I h => ?_⟩
  have hn := I.hok.fresh (Nat.le_refl s.heap.objs.size)
  have I1 := I.laid (a := s.heap.objs.size) (o := DN X.prog X.w s.heap.objs.size []) (h' := s.heap.push { cls := .type "dict", data := .dict #[] }) (t' := s.toks) (fun _ _ q => Heap.get?_push_of_some _ q) (Nat.le_refl _) (dn_empty s.heap I.big)
  have hshape : (evalEachOpt [some ke] X.env).zip ((evalEach [ve] X.env).map fun v => do let x ← v; standAt pos; pure x) = ([(eval ke X.env, do let x ← eval ve X.env; standAt pos; pure x)] : List (Sem Value × Sem Value)).map fun p => (some p.1, p.2) := rfl
  rw [arm_eval_Dict, hshape, dictDisplay_pairs [(eval ke X.env, do let x ← eval ve X.env; standAt pos; pure x)] (by simp) (by simp)]
  refine wpAny_bind (wpAny_standAt (wpAny_bind (wpAny_subDictH (knd := nestedKind X.prog X.w) (by show X.A.units + 8 < cLine; omega) (by simp)
    (evalPairs_cons (thn (pe_wp.run pins _ σ _ _ I1 (h _ hn)) fun u s1 ⟨y, H1, I1, ry, q1⟩ => wpAny_bind (thn (pe_wp.run pins s1 σ H1 _ I1 q1) fun w2 s2 ⟨v, H2, I2, rv, b, k, ey, kk, hp, q⟩ => wpAny_bind (wpAny_standAt (wpAny_pure (evalPairs_nil ?_)))))))))
  subst ey
  obtain rfl : u = Value.ref b := ry
  obtain ⟨h1, _, ys, pr, dd⟩ := dn_of I2 (.inl hp) ⟨s.heap.objs.size, fun _ => false, [], .nil⟩
  cases pr
  refine ⟨[(k, b, w2)], ⟨rfl, rfl, kk.is I2, True.intro⟩, dd, fun h' tk dz sb => wpAny_pure ?_⟩
  have I3 : Inv X pins σ (upd H2 s.heap.objs.size (DN X.prog X.w s.heap.objs.size [(k, b, v)])) { s2 with heap := h', toks := tk } := by
    have he : ∃ q, h'.get? s.heap.objs.size = some q := let ⟨q, _, _, e, _⟩ := dz; ⟨q, e⟩
    exact d_write I2 (by rw [hp]; exact True.intro) sb he (dn_ok h1 (show 1 ≤ sizeLine by decide) (.cons ⟨rfl, rfl, rv⟩ .nil) dz)
  obtain ⟨od, I4⟩ := I3.lock upd_same True.intro
  rw [upd_upd] at I4
  exact ⟨.ref s.heap.objs.size, _, I4, rfl, q od⟩
theorem EnvOk.hideNewD {l : Addr} (I : EnvOk X.K X.prog X.w π N0 H0 N H σ ρ) (hl : H l = none) : EnvOk X.K X.prog X.w π N0 H0 (plus N l) (upd H l (DN X.prog X.w l [])) σ ρ := by
  have J := I.newAny (i := σ.length) (x := .ownD []) (Ex.new (o := DN X.prog X.w l []) I.hn.pot hl) hl (by rw [upd_same]; exact fun z => by cases z) (.inr ⟨[], [], rfl, upd_same, .nil⟩)
  rw [List.set_eq_of_length_le (Nat.le_refl _), List.set_eq_of_length_le (by rw [I.len]; exact Nat.le_refl _)] at J
  exact J
theorem s_dict1 (hu : X.A.units + 64 < cLine) (hk : Snd X ke mk) (hv : Snd X ve mv) : Snd X (.Dict [some ke] [ve] pos) (eDict1 mk mv) := fun {π N0 H0 N H σ ρ Q} I h => ⟨_, pe_dict1 hu, fun p hp => by
  have Np := I.hn.new hp
  have ppi := I.hn.pot.ne hp
  have I1 := I.hideNewD hp
  refine hk I1 (T.all_mono (fun dk hdk => ?_) (T.all_bind.mp h))
  intro y H1 e1 r1
  refine hv (I1.ext e1) (T.all_mono (fun dv hdv => ?_) (T.all_bind.mp hdk))
  intro v H2 e2 r2
  obtain ⟨ds, k, rfl, ek, dp, hdv⟩ := withKey_all hdv
  have r1 := r1.mono e2.kp.hide
  obtain ⟨b, vs, rfl, hb, rb⟩ := id r1.tupE
  have e12 := e1.trans e2
  have h2 : H2 p = some (DN X.prog X.w p []) := e12.kp p _ ppi upd_same
  refine ⟨b, k, rfl, ⟨dp, _, _, _, r1, ek⟩, h2, fun od => ?_⟩
  have kp : Kp π (Hide (plus N p) H2) (Hide N (upd H2 p (.frz od (DN X.prog X.w p [(k, b, v)])))) := fun a o n q => by
    obtain ⟨na, ha⟩ := hide_some q
    have ne : a ≠ p := fun z => by rw [z, plus_self] at na; cases na
    have na' : N a = false := by
      cases c : N a with
      | false => rfl
      | true => rw [plus_old c] at na; cases na
    rw [hide_in na', upd_ne ne]
    exact ha
  refine hdv _ _ ⟨fun a o n q => ?_, ?_⟩ (.dic (od := od) (xs := [(k, b, v)]) (by rw [hide_in Np, upd_same]) ppi (.cons ek dp (r1.mono kp) (r2.mono kp) .nil))
  · have ne : a ≠ p := fun z => by rw [z, hp] at q; cases q
    rw [upd_ne ne]
    exact e12.kp a o n (by rw [upd_ne ne]; exact q)
  · obtain ⟨x, y, q, r⟩ := e12.pot
    exact ⟨x, y, by rw [upd_ne ppi.symm]; exact q, r⟩⟩
end
end Pd

/-! Loops over d.items() and enumerate(tuple). -/
namespace Pd
open PySem L2 PySem.Spec PyProof.Rows

/-- the entries of a locked dict, each in a new pair -/
def Itn (P : Program) (w : World) (d : Addr) (o : Obj) (xs : List (NestedKey × Addr × V)) : It :=
  ⟨fun i H => H d = some (.frz o (DN P w d xs)) ∧ i < xs.length, fun i H v H' => ∃ T x, xs[i]? = some x ∧ v = .ref T ∧ H T = none ∧ H' = upd H T (.tup [.ref x.2.1, x.2.2]), fun i H => H d = some (.frz o (DN P w d xs)) ∧ i = xs.length⟩
theorem PX.get {xs : List (NestedKey × Addr × V)} {ys : List (NestedKey × Addr × Value)} (r : PX xs ys) : ∀ {i : Nat} {x : NestedKey × Addr × V}, xs[i]? = some x → ∃ y, ys[i]? = some y ∧ x.1 = y.1 ∧ x.2.1 = y.2.1 ∧ RelV x.2.2 y.2.2 := by
  induction r with
  | nil => intro i x e; simp at e
  | @cons p q ps qs h t ih =>
    intro i x e
    cases i with
    | zero => simp at e; subst e; exact ⟨q, rfl, h⟩
    | succ i => exact ih (i := i) (by simpa using e)
section
variable {X : Cx} {pins : List (Addr × Obj)} {σ : L2.St} {H : Hp} {s : Shared} {P : Program} {w : World} {K : PySem.W.Frag}
theorem frz_at {d : Addr} {o : Obj} {xs : List (NestedKey × Addr × V)} {es : Array DictEntry} {ep : Nat} (I : Inv X pins σ H s) (h : H d = some (.frz o (DN X.prog X.w d xs))) (hod : o.data = .dict es ep) :
    s.heap.DictRaw d es ep ∧ es.size = xs.length ∧ ∀ (i : Nat) (x : NestedKey × Addr × V), xs[i]? = some x → ∃ (hi : i < es.size), es[i].key = .ref x.2.1 ∧ RelV x.2.2 es[i].val := by
  obtain ⟨ho, ⟨h1, h2, h3, ys, pr, o', es', ep', ho', hc, hd, he⟩, _⟩ := (show ObjOk X.prog X.w H s.heap d (.frz o (DN X.prog X.w d xs)) from I.hok d _ h)
  rw [ho] at ho'
  cases ho'
  rw [hod] at hd
  cases hd
  have hs : es.size = ys.length := size_of_entries he
  have hl : xs.length = ys.length := Paired.length pr
  refine ⟨⟨o, ho, hc, hod⟩, by omega, fun i x hx => ?_⟩
  obtain ⟨y, hy, r1, r2, r3⟩ := PX.get pr hx
  have hi : i < es.size := by
    have := (List.getElem?_eq_some_iff.mp hy).1
    omega
  have e := entry_at he i
  rw [Array.getElem?_eq_getElem hi, hy, Option.map_some] at e
  have e' : es[i] = entryOfKey (nestedKind X.prog X.w) y := Option.some.inj e
  refine ⟨hi, ?_, ?_⟩
  · rw [e', r2]; rfl
  · rw [e']; exact r3
theorem turn_itemsN {d : Addr} {o : Obj} {xs : List (NestedKey × Addr × V)} {es : Array DictEntry} {ep : Nat} {elts : List Expr} {kk : Nat} {tpos : Pos} (it : Addr) (hod : o.data = .dict es ep) :
    Turn P w K (.Tuple elts kk tpos) (Itn P w d o xs) [it] it (fun i h => ∃ ok ov, IsItemIter h it d i es.size ep ok ov) where
  mem := by simp
  obj := fun i h st b hb => by
    have e : b = it := by simpa using hb
    subst e
    obtain ⟨ok, ov, e⟩ := st
    exact ⟨_, e, fun v z => nomatch z⟩
  keep := fun i h h' st k => let ⟨ok, ov, e⟩ := st; ⟨ok, ov, k it (by simp) _ e⟩
  item := by
    intro X hP hw hK hc i pins s σ H E I hf st hg
    subst hP hw hK
    obtain ⟨hd, hi⟩ := hg
    obtain ⟨raw, hsz, ent⟩ := frz_at I hd hod
    obtain ⟨x, hx⟩ : ∃ x, xs[i]? = some x := ⟨xs[i], List.getElem?_eq_getElem hi⟩
    obtain ⟨hlt, ek, ev⟩ := ent i x hx
    obtain ⟨ok, ov, he⟩ := st
    have hil : it < s.heap.objs.size := Heap.lt_size he
    refine wpAny_pyNext_items_item_raw he raw hlt fun h' ho hT hz hk => ?_
    refine ⟨_, rfl, wpAny_letOwnedTupleGo_items (s := { s with heap := h' }) ho fun h'' he' sb => ?_⟩
    have hT2 : h''.get? s.heap.objs.size = some { cls := .type "tuple", data := .seq #[es[i].key, es[i].val] } := (sb.2 _ (Nat.ne_of_gt hil)).trans hT
    have new : ObjOk X.prog X.w (upd H s.heap.objs.size (.tup [.ref x.2.1, x.2.2])) h'' s.heap.objs.size (.tup [.ref x.2.1, x.2.2]) :=
      ⟨by show 2 ≤ sizeLine; decide, [es[i].key, es[i].val], .cons (show RelV (V.ref x.2.1) es[i].key by rw [ek]; rfl) (.cons ev .nil), ⟨_, hT2, rfl, _, rfl⟩⟩
    have I1 : Inv X pins σ (upd H s.heap.objs.size (.tup [.ref x.2.1, x.2.2])) { s with heap := h'' } :=
      I.turnedNew (t' := s.toks) (ch := [it]) (fun b ob hb e => (sb.2 b (by simpa using hb)).trans (hk b ob (by simpa using hb) e)) hf (Nat.le_refl _) new
    refine ⟨.ref s.heap.objs.size, _, I1, rfl, ⟨_, x, hx, rfl, I.hok.fresh (Nat.le_refl _), rfl⟩, ⟨_, _, he'⟩, fun b hb => ?_⟩
    have e : b = it := by simpa using hb
    rw [e, upd_ne (Nat.ne_of_lt hil)]
    exact (hf it (by simp)).1
  done := by
    intro X hP hw hK hc i pins s σ H E I hf st hg
    subst hP hw hK
    obtain ⟨hd, hi⟩ := hg
    obtain ⟨f0, f1, f2, f3, f4, f5⟩ := hf it (by simp)
    obtain ⟨raw, hsz, ent⟩ := frz_at I hd hod
    obtain ⟨ok, ov, he⟩ := st
    exact wpAny_pyNext_items_end_raw (I.ok.hd hc) he raw (by omega) fun h' eb => ⟨rfl, I.turned (t' := s.toks) (fun b ob hb e => eb b ob hb e) f0 f1 f3 f4 f5⟩
  self := fun A i s Q E st h => let ⟨_, _, e⟩ := st; PySem.wpAny_pyIter_itemiter e h
end
section
variable {X : Cx} {e : Expr} {apos cpos tpos : Pos} {elts : List Expr} {kk : Nat} {m : Rho → T D} {ms : Rho → T (List D)}
theorem pi_itemsN (hbase : attributeBase e "items" X.env (eval e X.env) = eval e X.env) (hline : (apos.endLine == cpos.line) = true) :
    PI X (.Tuple elts kk tpos) (.Call (.Attribute e "items" apos) [] [] cpos) (fun σ H R => wpE X e σ H fun x H1 => ∃ d o xs, x = .ref d ∧ H1 d = some (.frz o (DN X.prog X.w d xs)) ∧ R (Itn X.prog X.w d o xs) H1) := by
  refine ⟨fun pins s σ H R I h => ?_⟩
  refine wpAny_Call_method (T := "dict") (id := "dict.items") hbase rfl hline F.plainAttrs_dict F.slot_dict_items F.type_dict_items (thn (pe_wp.run pins s σ H _ I h) fun u s1 ⟨x, H1, I1, rx, d, o, xs, ex, hd, q⟩ => ?_)
  subst ex
  obtain rfl : u = Value.ref d := rx
  obtain ⟨ho, ⟨h1, h2, h3, ys, pr, o', es, ep, ho', hc, hdt, he⟩, _⟩ := (show ObjOk X.prog X.w H1 s1.heap d (.frz o (DN X.prog X.w d xs)) from I1.hok d _ hd)
  have eo : o' = o := Option.some.inj (ho'.symm.trans ho)
  subst eo
  have raw : s1.heap.DictRaw d es ep := ⟨_, ho, hc, hdt⟩
  refine ⟨raw.typeIs, fun b q => ?_, ?_⟩
  · cases q
    exact ⟨_, ho, hc.2.1⟩
  have I2 : Inv X pins σ H1 { s1 with heap := s1.heap.push { cls := .type "dict_items", data := .fields #[.ref d] } } := I1.kept (t' := s1.toks) fun b ob q => Heap.get?_push_of_some _ q
  have fin : wpAny (model X.prog X.w) X.A (pyIter (.ref s1.heap.objs.size)) (PIE X pins σ (.Tuple elts kk tpos) R) X.xe { s1 with heap := s1.heap.push { cls := .type "dict_items", data := .fields #[.ref d] } } :=
    wpAny_pyIter_items_raw (d := d) ⟨_, Heap.get?_push_size _ rfl, rfl, rfl⟩ (raw.at fun o q => Heap.get?_push_of_some _ q) (pi_one (tk := s1.toks) I2 _ (turn_itemsN _ hdt) ⟨.none, .none, Heap.get?_push_size _ rfl⟩ q)
  show wpAny _ _ (callWith cpos (.builtin "dict.items") [.ref d] [] []) _ X.xe s1
  exact method_meetsIn F.slot_dict_items F.entry_dict_items rfl (PySem.evalArgs_none ⟨rfl, raw.typeIs, F.args_dict_items_1 _, _, meets_dict_items_raw d h1, ⟨es, ep, raw⟩, fin⟩)
def iItems (m : Rho → T D) : Rho → T (List D) := fun ρ => (m ρ).bind fun d => match d with
  | .dic kvs => .ret (kvs.map fun p => .tup [p.1, p.2])
  | _ => .fail
theorem si_items (ha : Snd X e m) (hbase : attributeBase e "items" X.env (eval e X.env) = eval e X.env := by rfl) (hline : (apos.endLine == cpos.line) = true := by rfl) : SndI X (.Tuple elts kk tpos) (.Call (.Attribute e "items" apos) [] [] cpos) (iItems m) := fun {π N0 H0 N H σ ρ R} I h =>
  ⟨_, pi_itemsN hbase hline, ha I (T.all_mono (fun d hd => by
    intro v H2 e2 r
    cases d with
    | dic kvs =>
      obtain ⟨l, od, xs, rfl, hl, nl, ne, rl⟩ := r.dicE
      refine ⟨l, od, xs, rfl, hl, hd _ _ e2 fun N' H' i hn k => ?_⟩
      have hv : Hide N H2 l = some (.frz od (DN X.prog X.w l xs)) := by rw [hide_in nl]; exact hl
      have h' := k l _ ne hv
      obtain ⟨n', hl'⟩ := hide_some h'
      have hlen := rl.length
      refine ⟨fun d hd => ?_, fun e => ⟨hl', by rw [hlen, e, List.length_map]⟩⟩
      rw [List.getElem?_map] at hd
      cases q : kvs[i]? with
      | none => rw [q] at hd; cases hd
      | some p =>
        rw [q] at hd
        cases hd
        obtain ⟨kx, a, v, hx, r1, r2⟩ := (rl.mono k).get q
        refine ⟨⟨hl', (List.getElem?_eq_some_iff.mp hx).1⟩, fun x H3 y => ?_⟩
        obtain ⟨T, x', hx', rfl, hT, rfl⟩ := y
        rw [hx] at hx'
        cases hx'
        have en := Ex.new (o := .tup [V.ref a, v]) hn.pot hT
        exact ⟨en, .tup (hide_new (hn.new hT)) (hn.pot.ne hT) (.cons (r1.mono en.kp.hide) (.cons (r2.mono en.kp.hide) .nil))⟩
    | _ => exact False.elim hd) (T.all_bind.mp h))⟩
end

/-! ### enumerate(tuple) -/
set_option maxHeartbeats 1000000 in
theorem meets_enum1 {v : Value} {o : Obj} {H : Heap → Prop} (B : Begins v o H) :
    Meets (Builtin.«enumerate.__new__» ⟨[.type "enumerate", v], []⟩) (fun _ R s => H s.heap ∧
      R (.ok (.ret (.ref (s.heap.push o).objs.size))) { s with heap := (s.heap.push o).push { cls := .type "enumerate", data := .fields #[.none, .bool false, .ref s.heap.objs.size, rawInt 0, .none, .none] } }) :=
  .of_wp fun prog w A R s h => by
    obtain ⟨hp, g, d, tk, os⟩ := s; obtain ⟨h1, h⟩ := h
    have hsub := sub_enumerate
    have q1 : ∀ {A' : Around} {E : Value → Shared → Prop} {Q : Value → Shared → Prop}, Q (.ref hp.objs.size) ⟨hp.push o, g, d, tk, os⟩ → wpAny (model prog w) A' (pyIter v) Q E ⟨hp, g, d, tk, os⟩ :=
      fun q => B.iter prog w _ _ ⟨hp, g, d, tk, os⟩ _ h1 q
    wp_walk using q1
    refine wpAny_stack_any fun st => wpAny_pure ?_
    split
    · rename_i c _ _ _ _ _
      cases (c == Value.type "enumerate")
      · wp_walk using q1
        exact ⟨_, rfl, h⟩
      · wp_walk using q1
        exact ⟨_, rfl, h⟩
    · wp_walk using q1
      exact ⟨_, rfl, h⟩
theorem enum_begins1 {prog : Program} {w : World} {A : Around} {E : Value → Shared → Prop} {s : Shared} {v : Value} {o : Obj} {H : Heap → Prop} {Q : Value → Shared → Prop} (B : Begins v o H) (h1 : H s.heap)
    (h : ∀ h', IsEnum h' (s.heap.objs.size + 1) s.heap.objs.size 0 .none → h'.get? s.heap.objs.size = some o → h'.objs.size = s.heap.objs.size + 2 →
      (∀ b o, s.heap.get? b = some o → h'.get? b = some o) → Q (.ref (s.heap.objs.size + 1)) { s with heap := h' }) :
    wpAny (model prog w) A (call (.type "enumerate") [v]) Q E s := by
  refine callType_new F.called_enumerate (by decide) (F.typeCall_enumerate_1 _) (F.newCall_enumerate_1 _) (fun obj => F.args_object_init_2 obj _) F.entry_enumerate_new (meets_enum1 B) ⟨h1, ?_⟩
  have hz : (s.heap.push o).objs.size = s.heap.objs.size + 1 := Heap.size_push ..
  show _ ∧ _
  rw [hz]
  have he : IsEnum ((s.heap.push o).push { cls := .type "enumerate", data := .fields #[.none, .bool false, .ref s.heap.objs.size, rawInt 0, .none, .none] }) (s.heap.objs.size + 1) s.heap.objs.size 0 .none := by
    have := Heap.get?_push_size (s.heap.push o) (o := { cls := .type "enumerate", data := .fields #[.none, .bool false, .ref s.heap.objs.size, rawInt 0, .none, .none] }) rfl
    rw [hz] at this; exact this
  refine ⟨⟨_, he, rfl⟩, h _ he (Heap.get?_push_of_some _ (Heap.get?_push_size _ B.free)) (by rw [Heap.size_push, hz]) fun b o x => Heap.get?_push_of_some _ (Heap.get?_push_of_some _ x)⟩
def Iten (K : PySem.W.Frag) (a : Addr) : It :=
  ⟨fun i H => ∃ (xs : List V) (x : V), SqT K H a xs ∧ xs[i]? = some x, fun i H v H' => ∃ T x, v = .ref T ∧ H T = none ∧ H' = upd H T (.tup [.int (i : Nat), x]) ∧ ∀ xs, SqT K H a xs → xs[i]? = some x, fun i H => ∃ xs : List V, SqT K H a xs ∧ xs.length = i⟩
theorem turn_enumT {P : Program} {w : World} {K : PySem.W.Frag} {elts : List Expr} {kk : Nat} {tpos : Pos} (a e it : Addr) :
    Turn P w K (.Tuple elts kk tpos) (Iten K a) [e, it] e (fun i h => (∃ old, IsEnum h e it ((i : Nat) : Int) old) ∧ h.IsTupleIter it a i ∧ e ≠ it ∧ a ≠ it ∧ a ≠ e) where
  mem := by simp
  obj := fun i h st b hb => by
    obtain ⟨⟨old, he⟩, ⟨o, ho, hc, hd⟩, _⟩ := st
    have e' : b = e ∨ b = it := by simpa using hb
    rcases e' with z | z
    · rw [z]; exact ⟨_, he, fun v q => nomatch q⟩
    · rw [z]; exact ⟨o, ho, fun v q => by rw [hd] at q; cases q⟩
  keep := fun i h h' st k => let ⟨⟨old, he⟩, hi, hne⟩ := st; ⟨⟨old, k e (by simp) _ he⟩, hi.at fun o q => k it (by simp) o q, hne⟩
  item := by
    intro X hP hw hK hc i pins s σ H E I hf st hg
    subst hP hw hK
    obtain ⟨⟨old, he⟩, hit, hne, ha1, ha2⟩ := st
    obtain ⟨xs, x, hq, hx⟩ := hg
    obtain ⟨its, rv, p, hz⟩ := I.tuple hq
    obtain ⟨u, hu, ru⟩ := rv.get hx
    have hel : e < s.heap.objs.size := Heap.lt_size he
    have hil : it < s.heap.objs.size := by obtain ⟨_, q, _⟩ := hit; exact Heap.lt_size q
    have pt : s.heap.IsTuple a its.toArray := p
    have hi : i < its.toArray.size := by
      have := (List.getElem?_eq_some_iff.mp hu).1
      simpa using this
    refine wpAny_pyNext_enum_itemC (Draws.tuple (show X.A.in1.handled = none from I.ok.hd hc) it a ha1 its.toArray) he ⟨hit, pt⟩ hi hne (by simp [hne, ha2.symm]) fun x' h' tk hP ho hst hT hsz hk => ?_
    have ex : x' = u := by
      have hu' : its.toArray[i]? = some u := by simpa using hu
      exact Option.some.inj (hP.symm.trans hu')
    subst ex
    refine ⟨_, rfl, wpAny_letOwnedTupleGo_enum (s := { s with heap := h', toks := tk + 1 }) ho fun h'' he' sb => ?_⟩
    have hT2 : h''.get? s.heap.objs.size = some { cls := .type "tuple", data := .seq #[.int i tk, x'] } := (sb.2 _ (Nat.ne_of_gt hel)).trans hT
    have new : ObjOk X.prog X.w (upd H s.heap.objs.size (.tup [.int (i : Nat), x])) h'' s.heap.objs.size (.tup [.int (i : Nat), x]) :=
      ⟨by show 2 ≤ sizeLine; decide, [.int i tk, x'], .cons ⟨_, rfl⟩ (.cons ru .nil), ⟨_, hT2, rfl, _, rfl⟩⟩
    have I1 : Inv X pins σ (upd H s.heap.objs.size (.tup [.int (i : Nat), x])) { s with heap := h'', toks := tk + 1 } :=
      I.turnedNew (ch := [e, it]) (fun b ob hb q => (sb.2 b (fun z => hb (by simp [z]))).trans (hk b ob (fun z => hb (by simp [z])) (fun z => hb (by simp [z])) q)) hf (Nat.le_refl _) new
    refine ⟨.ref s.heap.objs.size, _, I1, rfl, ⟨_, x, rfl, I.hok.fresh (Nat.le_refl _), rfl, fun ys hy => by rw [I.tuple_inj hy hq]; exact hx⟩, ⟨⟨x', ?_⟩, hst.1.at fun o q => (sb.2 it (Ne.symm hne)).trans q, hne, ha1, ha2⟩, fun b hb => ?_⟩
    · have e1 : ((i + 1 : Nat) : Int) = (i : Int) + 1 := by omega
      rw [e1]; exact he'
    · have hb' : b < s.heap.objs.size := by
        have e' : b = e ∨ b = it := by simpa using hb
        rcases e' with z | z
        · rw [z]; exact hel
        · rw [z]; exact hil
      rw [upd_ne (Nat.ne_of_lt hb')]
      exact (hf b hb).1
  done := by
    intro X hP hw hK hc i pins s σ H E I hf st hg
    subst hP hw hK
    obtain ⟨⟨old, he⟩, hit, hne, ha1, ha2⟩ := st
    obtain ⟨xs, hq, hx⟩ := hg
    obtain ⟨its, rv, p, hz⟩ := I.tuple hq
    obtain ⟨f0, f1, f2, f3, f4, f5⟩ := hf it (by simp)
    have hl := rv.length
    have pt : s.heap.IsTuple a its.toArray := p
    have ei : i = its.toArray.size := by simp; omega
    rw [ei] at hit
    exact wpAny_pyNext_enum_endD (Draws.tuple (show X.A.in1.handled = none from I.ok.hd hc) it a ha1 its.toArray) he ⟨hit, pt⟩ fun h' eb => ⟨rfl, I.turned (t' := s.toks) (fun b o hb q => eb b o hb q) f0 f1 f3 f4 f5⟩
  self := fun A i s Q E st h => let ⟨⟨_, he⟩, _⟩ := st; wpAny_pyIter_enum he h
section
variable {X : Cx} {a : Expr} {p pos tpos : Pos} {elts : List Expr} {kk : Nat} {ms : Rho → T (List D)}
theorem pi_enumT {ta : TA} (hg : Gl X "enumerate") (hm : X.mg "enumerate" = none) (ha : PA X [a] ta) (hs : starEach [a] X.env = [(false, eval a X.env)]) :
    PI X (.Tuple elts kk tpos) (.Call (.Name "enumerate" p) [a] [] pos) (fun σ H R => ta σ H fun vs H1 => ∃ a xs, vs = [.ref a] ∧ SqT X.K H1 a xs ∧ R (Iten X.K a) H1) := by
  refine ⟨fun pins s σ H R I h => ?_⟩
  refine Call_ (ld_blt I hg hm boot_enumerate (PyProof.Rows.callWith_type1 (thn (ha.run pos pins s σ H _ I h) fun us s1 ⟨vs, H1, I1, r1, q1⟩ => ?_) hs rfl))
  obtain ⟨a, xs, ex, hq, q⟩ := q1
  subst ex
  cases r1 with
  | cons r rr =>
    cases rr
    cases r
    obtain ⟨its, rv, p', hz⟩ := I1.tuple hq
    have pt : s1.heap.IsTuple a its.toArray := p'
    have alt : a < s1.heap.objs.size := let ⟨_, ho, _⟩ := p'; Heap.lt_size ho
    refine enum_begins1 (begins_tuple a its.toArray) pt fun h' he hit hsz hk => wpAny_pyIter_enum he ?_
    have I2 : Inv X pins σ H1 { s1 with heap := h' } := I1.kept (t' := s1.toks) hk
    refine ⟨s1.heap.objs.size + 1, [s1.heap.objs.size + 1, s1.heap.objs.size], _, _, H1, rfl, I2, turn_enumT a (s1.heap.objs.size + 1) s1.heap.objs.size, ⟨⟨.none, he⟩, ⟨_, hit, rfl, rfl⟩, Nat.succ_ne_self _, Nat.ne_of_lt alt, Nat.ne_of_lt (Nat.lt_succ_of_lt alt)⟩, fun b hb => ?_, q⟩
    have e' : b = s1.heap.objs.size + 1 ∨ b = s1.heap.objs.size := by simpa using hb
    have hle : s1.heap.objs.size ≤ b := by
      rcases e' with z | z
      · rw [z]; exact Nat.le_add_right _ _
      · rw [z]; exact Nat.le_refl _
    exact I1.fpOk hle (I1.hok.fresh hle)
def numbered : Nat → List D → List D
  | _, [] => []
  | n, d :: ds => .tup [.int n, d] :: numbered (n + 1) ds
theorem numbered_len : ∀ {ds : List D} {n : Nat}, (numbered n ds).length = ds.length
  | [], _ => rfl
  | _ :: ds, n => congrArg Nat.succ numbered_len
theorem numbered_get : ∀ {ds : List D} {n i : Nat} {d : D}, (numbered n ds)[i]? = some d → ∃ x, ds[i]? = some x ∧ d = .tup [.int ((n + i : Nat) : Int), x]
  | [], _, _, _, h => by simp [numbered] at h
  | x :: ds, n, 0, d, h => by simp [numbered] at h; exact ⟨x, rfl, h.symm⟩
  | x :: ds, n, i + 1, d, h => by
    obtain ⟨y, hy, e⟩ := numbered_get (ds := ds) (n := n + 1) (i := i) (by simpa [numbered] using h)
    exact ⟨y, hy, by rw [e]; congr 4; omega⟩
def enumT : List D → T (List D)
  | [.tup ds] => .ret (numbered 0 ds)
  | _ => .fail
theorem si_enumT (hm : X.mg "enumerate" = none) (ha : SndA X [a] ms) (hg : Gl X "enumerate" := by rfl) (hs : starEach [a] X.env = [(false, eval a X.env)] := by rfl) : SndI X (.Tuple elts kk tpos) (.Call (.Name "enumerate" p) [a] [] pos) (iRg enumT ms) := fun {π N0 H0 N H σ ρ R} I h =>
  ⟨_, pi_enumT hg hm pa_wp hs, ha I (T.all_mono (fun ds hd => by
    intro vs H2 e2 r
    unfold enumT at hd
    split at hd
    · cases r with
      | cons r t =>
        cases t
        obtain ⟨a, us, rfl, hq, ra⟩ := id r.tupE
        refine ⟨a, us, rfl, hq, hd _ _ e2 fun N' H' i hn k => ?_⟩
        obtain ⟨a', vs, e, _, sq, _, rb⟩ := sqt_kp k r
        cases e
        refine ⟨fun d hd => ?_, fun e => ⟨vs, sq, by rw [e, numbered_len, rb.length]⟩⟩
        obtain ⟨x, hx, rfl⟩ := numbered_get hd
        obtain ⟨v, hv, rv⟩ := rb.get hx
        refine ⟨⟨vs, v, sq, hv⟩, fun y H3 z => ?_⟩
        obtain ⟨T, x', rfl, hT, rfl, all⟩ := z
        have e3 := all vs sq
        rw [hv] at e3
        cases e3
        have en := Ex.new (o := .tup [V.int (i : Nat), v]) hn.pot hT
        refine ⟨en, .tup (hide_new (hn.new hT)) (hn.pot.ne hT) (.cons ?_ (.cons (rv.mono en.kp.hide) .nil))⟩
        rw [Nat.zero_add]
        exact .int _
    · exact False.elim hd) (T.all_bind.mp h))⟩
end
end Pd

/-! sorted of lists of data, of the keys of a dict. -/
namespace Pd
open PySem L2 PySem.W PySem.Calls PyProof.Rows

def ins {α : Type} (le : α → α → Bool) (a : α) : List α → List α
  | [] => [a]
  | b :: bs => cond (le a b) (a :: b :: bs) (b :: ins le a bs)
def isort {α : Type} (le : α → α → Bool) : List α → List α
  | [] => []
  | a :: as => ins le a (isort le as)
theorem ins_at {α : Type} {le : α → α → Bool} {a : α} : ∀ {l₁ l₂ : List α}, (∀ b ∈ l₁, (!le a b) = true) → (∀ b ∈ l₂, le a b = true) → ins le a (l₁ ++ l₂) = l₁ ++ a :: l₂
  | [], [], _, _ => rfl
  | [], b :: bs, _, h => by
    show cond (le a b) _ _ = _
    rw [h b (List.mem_cons_self ..)]
    rfl
  | c :: cs, l₂, h1, h2 => by
    have hc : le a c = false := by have := h1 c (List.mem_cons_self ..); simpa using this
    show cond (le a c) _ _ = _
    rw [hc]
    show c :: ins le a (cs ++ l₂) = _
    rw [ins_at (fun b hb => h1 b (List.mem_cons_of_mem _ hb)) h2]
    rfl
theorem merge_isort {α : Type} {le : α → α → Bool} (h : TotalLe le) : ∀ l : List α, l.mergeSort le = isort le l
  | [] => by simp [isort]
  | a :: l => by
    have tr : ∀ a b c, le a b = true → le b c = true → le a c = true := h.trans
    have to : ∀ a b, (le a b || le b a) = true := fun a b => Bool.or_eq_true_iff.mpr (h.total a b)
    obtain ⟨l₁, l₂, e1, e2, e3⟩ := List.mergeSort_cons tr to a l
    have hp := sort_pairwise h (a :: l)
    rw [e1] at hp
    have h2 : ∀ b ∈ l₂, le a b = true := (List.pairwise_cons.mp (List.pairwise_append.mp hp).2.1).1
    rw [e1]
    unfold isort
    rw [← merge_isort h l, e2]
    exact (ins_at (fun b hb => e3 b hb) h2).symm

/-- data as PyData (what has none: None) -/
def pyOf (d : D) : PyData := d.py.getD .none
def alikeB (ps : List PyData) : Bool := ps.all fun p => ps.all fun q => alike p q
def headed : PyData → Bool
  | .tuple (_ :: _) => true
  | _ => false
def unheaded : PyData → Bool
  | .none => false
  | .tuple _ => false
  | _ => true
def dLe (x y : D) : Bool := dataLe false pyOf x y
def okSort (ds : List D) : Bool := ds.all (fun d => d.py.isSome && decide ((pyOf d).depth ≤ 32)) && alikeB (ds.map pyOf) && ((ds.map pyOf).all headed || (ds.map pyOf).all unheaded) && small ds
def isEmptyTup : List D → Bool
  | [.tup []] => true
  | _ => false
def sortD (ds : List D) : T (List D) := cond (isEmptyTup ds) (.ret ds) (cond (okSort ds) (.ret (isort dLe ds)) .fail)
theorem alike_of {ps : List PyData} (h : alikeB ps = true) : AllAlike ps := fun d hd d' hd' => List.all_eq_true.mp (List.all_eq_true.mp h d hd) d' hd'
theorem headed_of {p : PyData} (h : headed p = true) : ∃ x r, p = .tuple (x :: r) := by
  unfold headed at h
  split at h
  · exact ⟨_, _, rfl⟩
  · cases h
theorem unheaded_of {p : PyData} (h : unheaded p = true) : p ≠ .none ∧ ∀ xs, p ≠ .tuple xs := by
  unfold unheaded at h
  split at h
  · cases h
  · cases h
  · exact ⟨by assumption, by assumption⟩
theorem sortable_of {ps : List PyData} (h : (ps.all headed || ps.all unheaded) = true) : Sortable ps := by
  rcases Bool.or_eq_true_iff.mp h with h | h
  · exact .inl fun d hd => headed_of (List.all_eq_true.mp h d hd)
  · exact .inr fun d hd => unheaded_of (List.all_eq_true.mp h d hd)

section
variable {X : Cx} {π : Addr} {N : Addr → Bool} {H : Hp} {pins : List (Addr × Obj)} {σ : L2.St} {s : Shared}
theorem each_of {h' : Heap} (I : Inv X pins σ H s) (k : ∀ b o, s.heap.get? b = some o → h'.get? b = some o) : ∀ {ds : List D} {us : List V} {vs : List Value}, RvL X.K X.prog X.w π (Hide N H) us ds → Vals us vs → (∀ d ∈ ds, d.py.isSome = true) →
    ∃ bs : List (V × D), bs.map (·.1) = us ∧ bs.map (·.2) = ds ∧ EachIs (fun (v : Value) (b : V × D) => RelV b.1 v ∧ Rv X.K X.prog X.w π (Hide N H) b.1 b.2) vs bs ∧ EachIs (fun (v : Value) (b : V × D) => ∃ as, Reads h' v (pyOf b.2) as) vs bs
  | _, _, _, .nil, .nil, _ => ⟨[], rfl, rfl, .nil, .nil⟩
  | d :: ds, u :: us, v :: vs, .cons r t, .cons rv rt, hp => by
    obtain ⟨bs, e1, e2, e3, e4⟩ := each_of I k t rt fun d hd => hp d (List.mem_cons_of_mem _ hd)
    have hd := hp d (List.mem_cons_self ..)
    obtain ⟨p, hpy⟩ := Option.isSome_iff_exists.mp hd
    obtain ⟨as, q⟩ := Dp.reads I p u v (r.dp hpy) rv
    refine ⟨(u, d) :: bs, by rw [List.map_cons, e1], by rw [List.map_cons, e2], .cons ⟨rv, r⟩ e3, .cons ⟨as, ?_⟩ e4⟩
    show Reads h' v (d.py.getD .none) as
    rw [hpy]
    exact PyProof.Rows.Reads.keeps k q
theorem each_back : ∀ {vs : List Value} {bs : List (V × D)}, EachIs (fun (v : Value) (b : V × D) => RelV b.1 v ∧ Rv X.K X.prog X.w π (Hide N H) b.1 b.2) vs bs → Vals (bs.map (·.1)) vs ∧ RvL X.K X.prog X.w π (Hide N H) (bs.map (·.1)) (bs.map (·.2))
  | _, _, .nil => ⟨.nil, .nil⟩
  | _, _, .cons h t => ⟨.cons h.1 (each_back t).1, .cons h.2 (each_back t).2⟩
theorem sorts_of {A : Around} {h' : Heap} {tk : Nat} {us : List V} {vs : List Value} {ds : List D} (hu : A.units + 60 < cLine) (I : Inv X pins σ H s) (k : ∀ b o, s.heap.get? b = some o → h'.get? b = some o) (r : RvL X.K X.prog X.w π (Hide N H) us ds) (rv : Vals us vs) {P : List D → Prop} (h : (sortD ds).all P) :
    ∃ κ, SortsAt X.prog X.w A { s with heap := h', toks := tk } κ vs ∧ vs.length ≤ sizeLine ∧ ∃ us' es, P es ∧ RvL X.K X.prog X.w π (Hide N H) us' es ∧ Vals us' (sortVals κ false vs vs) ∧ us'.length ≤ sizeLine := by
  unfold sortD at h
  cases c : isEmptyTup ds with
  | true =>
    rw [c] at h
    have ed : ds = [.tup []] := by
      unfold isEmptyTup at c
      split at c
      · rfl
      · cases c
    subst ed
    cases r with
    | @cons u d us' ds' r t =>
    cases t
    cases rv with
    | @cons _ v _ vs' q t =>
    cases t
    obtain ⟨as, q1⟩ := Dp.reads I (.tuple []) u v (r.dp rfl) q
    have q2 : Reads h' v (.tuple []) as := PyProof.Rows.Reads.keeps k q1
    refine ⟨dataKind h' [.tuple []], ⟨fun x hx => ?_, tuples' true, fun E x y a b Q ha hb hq => ?_, fun h2 => absurd h2 (by simp)⟩, (show 1 ≤ sizeLine by decide), [u], [.tup []], h, .cons r .nil, ?_, (show 1 ≤ sizeLine by decide)⟩
    · have ex : x = v := by simpa using hx
      subst ex
      exact ⟨_, dataKind_some (ds := [.tuple []]) (fun d hd d' hd' => by
        have e1 : d = .tuple [] := by simpa using hd
        have e2 : d' = .tuple [] := by simpa using hd'
        rw [e1, e2]; rfl) (List.mem_cons_self ..) q2⟩
    · obtain ⟨d, as, hd, ra, rfl⟩ := dataKind_inv ha
      obtain ⟨d', as', hd', rb, rfl⟩ := dataKind_inv hb
      have e1 : d = .tuple [] := by simpa using hd
      have e2 : d' = .tuple [] := by simpa using hd'
      subst e1 e2
      have hq' : Q (PyProof.Rows.lexLt itemOrd (keyToksAll []) (keyToksAll [])) { s with heap := h', toks := tk } := hq
      cases ra with
      | @tuple l o xs n _ _ h1 h2 h3 h4 =>
        cases rb with
        | @tuple l' o' xs' n' _ _ k1 k2 k3 k4 =>
          have n1 : xs.size = 0 := by simpa using SeqAt.ReadsAll.length _ _ _ h4
          have n2 : xs'.size = 0 := by simpa using SeqAt.ReadsAll.length _ _ _ k4
          exact kat_lt (s := { s with heap := h', toks := tk }) h1 h3 k1 k3 (katLex_alike (s := { s with heap := h', toks := tk }) [] [] 0 _ _ _ _ h4 k4 rfl (by show A.units + min 0 0 < cLine; omega) (fun _ _ x r t ex => nomatch ex) (by rw [n1, n2]; rfl) hq')
    · unfold sortVals
      rw [show ([v] : List Value).zip [v] = [(v, v)] from rfl, List.mergeSort_singleton]
      exact .cons q .nil
  | false =>
    rw [c] at h
    obtain ⟨ok, h⟩ := cond_all (show (cond (okSort ds) (T.ret (isort dLe ds)) .fail).all P from h)
    unfold okSort at ok
    simp only [Bool.and_eq_true] at ok
    obtain ⟨⟨⟨o1, o2⟩, o3⟩, o4⟩ := ok
    have o1' : ∀ d ∈ ds, d.py.isSome = true ∧ (pyOf d).depth ≤ 32 := fun d hd => by
      have := List.all_eq_true.mp o1 d hd
      simpa using this
    obtain ⟨bs, e1, e2, e3, e4⟩ := each_of (h' := h') I k r rv fun d hd => (o1' d hd).1
    have em : bs.map (fun b => pyOf b.2) = ds.map pyOf := by rw [← e2, List.map_map]; rfl
    have hal : AllAlike (bs.map fun b => pyOf b.2) := by rw [em]; exact alike_of o2
    have hk : Sortable (bs.map fun b => pyOf b.2) := by rw [em]; exact sortable_of o3
    have e5 := sortVals_data (enc := fun b : V × D => pyOf b.2) false e3 e4 hal
    obtain ⟨z1, z2⟩ := each_back e5
    have lz := small_ok r o4
    have lv : vs.length ≤ sizeLine := by rw [← rv.length]; exact lz
    have hu2 : ∀ d, d ∈ (bs.map fun b : V × D => pyOf b.2) → A.units + d.depth < cLine := fun p hp => by
      rw [em] at hp
      obtain ⟨d, hd, rfl⟩ := List.mem_map.mp hp
      have := (o1' d hd).2
      omega
    have es : (bs.mergeSort (dataLe false fun b : V × D => pyOf b.2)).map (·.2) = isort dLe ds := by
      rw [List.map_mergeSort (r := dataLe false fun b : V × D => pyOf b.2) (s := dLe) (f := fun b : V × D => b.2) (l := bs) (fun a _ b _ => rfl), e2]
      exact merge_isort (sortLe_total (listOrd itemOrd) false fun d => keyToks (pyOf d)) ds
    refine ⟨_, SortsAt.data (s := { s with heap := h', toks := tk }) (each_map (R := fun v d => ∃ as, Reads h' v d as) (fun b : V × D => pyOf b.2) e4) hal hk hu2, lv, _, _, h, by rw [← es]; exact z2, z1, ?_⟩
    rw [List.length_map, List.length_mergeSort]
    have := congrArg List.length e1
    rw [List.length_map] at this
    omega
def bSorted : List D → T (List D)
  | [.lst ds] => sortD ds
  | _ => .fail
theorem cs_sorted (hu : X.A.units + 64 < cLine) : CaSndL X (.builtin "sorted") bSorted := fun {π N H xs ds Q} hn r h => by
  unfold bSorted at h
  split at h
  · rename_i ds
    cases r with
    | cons r t =>
    cases t
    refine ⟨fun xs H Q => ∃ a us, xs = [.ref a] ∧ H a = some (.lst us) ∧ RvL X.K X.prog X.w π (Hide N H) us ds ∧ (sortD ds).all (Kl X π N H Q) ∧ HN π N H, ?_, ?_⟩
    · intro pins s σ H xs vs Q I r q
      obtain ⟨a, us, rfl, ha, ru, hq, hn⟩ := q
      obtain ⟨v, rfl, rx⟩ := vals1 r
      cases rx
      obtain ⟨its, rv, p, _⟩ := I.list (.inl (.inl ha))
      obtain ⟨κ, S, lz, us', es, hp, r2, rv2, l2⟩ := sorts_of (A := X.A.in1.in1) (h' := sortingHeap (copyHeap s.heap its) (s.heap.objs.size + 1) its) (tk := s.toks) (by rw [Around.in1_units, Around.in1_units]; omega) I (fun _ _ => sorting_copy_old) ru rv hq
      refine sorted_vals p.isList S lz ?_
      obtain ⟨c, hc⟩ := sortedAll_at s.heap its (sortVals κ false its its).toArray
      have hf : H (s.heap.objs.size + 1) = none := I.hok.fresh (Nat.le_succ _)
      exact ⟨.ref (s.heap.objs.size + 1), upd H (s.heap.objs.size + 1) (.lst us'), I.laid (t' := s.toks) (fun b u e => sortedAll_old e) (Nat.le_succ _) ⟨l2, _, c, rv2, hc⟩, rfl, Kl.new hp hn r2 hf⟩
    · obtain ⟨a, us, rfl, ha, _, _, ra⟩ := r.lstE
      exact ⟨a, us, rfl, ha, ra, h, hn⟩
  · exact False.elim h
theorem kdl_raw {prog : Program} {w : World} {d : Addr} {es : Array DictEntry} {ep : Nat} (lo : (d == sysModules) = false) : KdlSrc prog w "dict" d d es.size (fun i v => ∃ hi : i < es.size, v = es[i].key) (fun h => h.DictRaw d es ep) where
  type := fun _ hm => hm.typeIs
  there := fun _ hm => let ⟨_, ho, _⟩ := hm; ⟨Heap.lt_size ho, Heap.lt_size ho⟩
  keep := fun _ _ hm hk => hm.at fun o e => hk d (.inl rfl) o e
  notList := by decide
  notTuple := by decide
  hint := fun _ _ _ _ hm hq => kdl_hint_dict hm.typeIs hq
  iter := fun _ s hh hm => ⟨_, _, (fun _ _ hq => wpAny_pyIter_dict_raw lo hm hq), Walks.rawKeys hh _ d (let ⟨_, ho, _⟩ := hm; Nat.ne_of_lt (Heap.lt_size ho)) es ep, ⟨⟨_, Heap.get?_push_size _ rfl, rfl, rfl⟩, hm.at fun _ q => Heap.get?_push_of_some _ q⟩⟩
theorem vals_keys : ∀ {xs : List (NestedKey × Addr × V)} {us : List Value}, us.length = xs.length → (∀ (i : Nat) (x : NestedKey × Addr × V) (u : Value), xs[i]? = some x → us[i]? = some u → u = .ref x.2.1) → Vals (xs.map fun x => V.ref x.2.1) us
  | [], [], _, _ => .nil
  | x :: xs, u :: us, hl, h => by
    have e := h 0 x u rfl rfl
    subst e
    exact .cons rfl (vals_keys (by simpa using hl) fun i x u e1 e2 => h (i + 1) x u (by simpa using e1) (by simpa using e2))
  | [], _ :: _, hl, _ => by simp at hl
  | _ :: _, [], hl, _ => by simp at hl
theorem RvD.keysL {K : PySem.W.Frag} {P : Program} {w : World} {H : Hp} : ∀ {kvs : List (D × D)} {xs : List (NestedKey × Addr × V)}, RvD K P w π H xs kvs → RvL K P w π H (xs.map fun x => V.ref x.2.1) (kvs.map (·.1))
  | _, _, .nil => .nil
  | _, _, .cons _ _ rk _ t => .cons rk (RvD.keysL t)
def bSortedD : List D → T (List D)
  | [.dic kvs] => sortD (kvs.map (·.1))
  | _ => .fail
theorem cs_sortedD (hc : X.calm = true) (hu : X.A.units + 64 < cLine) : CaSndL X (.builtin "sorted") bSortedD := fun {π N H xs ds Q} hn r h => by
  unfold bSortedD at h
  split at h
  · rename_i kvs
    cases r with
    | cons r t =>
    cases t
    refine ⟨fun ys H Q => ∃ a od xs, ys = [.ref a] ∧ H a = some (.frz od (DN X.prog X.w a xs)) ∧ RvD X.K X.prog X.w π (Hide N H) xs kvs ∧ (sortD (kvs.map (·.1))).all (Kl X π N H Q) ∧ HN π N H, ?_, ?_⟩
    · intro pins s σ H ys vs Q I r q
      obtain ⟨a, od, xs, rfl, ha, rd, hq, hn⟩ := q
      obtain ⟨v, rfl, rx⟩ := vals1 r
      cases rx
      obtain ⟨lo, lz, zs, pr, dd⟩ := dn_of I (.inr ⟨od, ha⟩) ⟨_, _, _, rd⟩
      obtain ⟨es, ep, raw, hsz, ent⟩ := dd.raw
      have hl : xs.length = zs.length := Paired.length pr
      refine Calls.call_function_entry PyProof.Rows.kind_sorted PyProof.Rows.plain_sorted PyProof.Rows.entry_sorted (PyProof.Rows.args_sorted1 _) ?_
      unfold Builtin.«sorted»
      refine wpAny_bind (m := checkCount "sorted" 1 1 _) (wpAny_pure ?_)
      refine wpAny_bind (kdu_collect (A := X.A.in1) (kdl_raw lo) (I.ok.hd hc) raw (by omega) fun h' tk acc hk hacc => ?_)
      have hal : acc.toList.length = xs.length := by rw [Array.length_toList, hacc.1, hsz, hl]
      have rv : Vals (xs.map fun x => V.ref x.2.1) acc.toList := vals_keys hal fun i x u hx hu2 => by
        obtain ⟨y, hy, e1, e2, _⟩ := PX.get pr hx
        obtain ⟨hi, ek⟩ := hacc.2 i u (by rw [← Array.getElem?_toList]; exact hu2)
        obtain ⟨y', hy', k1, _, _⟩ := ent i hi
        rw [hy] at hy'
        cases hy'
        rw [ek, k1, e2]
      have I1 : Inv X pins σ H { s with heap := h', toks := tk } := I.kept hk
      refine wpAny_bind (wpAny_newList ?_ (by rw [hal]; exact lz))
      have hoL : (h'.push (seqObj "list" acc.toList.toArray 0)).get? h'.objs.size = some (seqObj "list" acc.toList.toArray 0) := Heap.get?_push_size _ rfl
      obtain ⟨κ, S, lz2, us', es', hp, r2, rv2, l2⟩ := sorts_of (A := X.A.in1.in1) (h' := sortingHeap (h'.push (seqObj "list" acc.toList.toArray 0)) h'.objs.size acc.toList) (tk := tk) (by rw [Around.in1_units, Around.in1_units]; omega) I
        (fun b o e => sortingHeap_old (Nat.ne_of_lt (Heap.lt_size (hk b o e))) (Heap.get?_push_of_some _ (hk b o e))) (RvD.keysL rd) rv hq
      show wpAny _ _ _ _ _ { s with heap := h'.push (seqObj "list" acc.toList.toArray 0), toks := tk }
      refine wpAny_bind (wpAny_holding (wpAny_call_entry PyProof.Rows.slot_list_sort ⟨_, hoL, rfl⟩ PyProof.Rows.entry_list_sort
        (list_sort_vals (s := { s with heap := h'.push (seqObj "list" acc.toList.toArray 0), toks := tk }) hoL S lz2 ⟨_, rfl, ?_⟩) (PyProof.Rows.args_list_sort _)))
      obtain ⟨e', he'⟩ := PyProof.Rows.sortedHeap_at (vs := acc.toList) (out := (sortVals κ false acc.toList acc.toList).toArray) hoL
      have hf : H h'.objs.size = none := I1.hok.fresh (Nat.le_refl _)
      refine wpAny_pure ⟨_, rfl, .ref h'.objs.size, upd H h'.objs.size (.lst us'), I1.laid (t' := tk) (fun b u e => ?_) (Nat.le_refl _)
        (show ObjOk X.prog X.w _ _ _ (.lst us') from ⟨l2, _, e', rv2, he'⟩), rfl, Kl.new hp hn r2 hf⟩
      have hb : b < h'.objs.size := Heap.lt_size e
      rw [PyProof.Rows.sortedHeap_old (Nat.ne_of_lt hb) (by rw [size_push']; exact Nat.lt_succ_of_lt hb)]
      exact Heap.get?_push_of_some _ e
    · obtain ⟨a, od, xs, rfl, ha, _, _, ra⟩ := r.dicE
      exact ⟨a, od, xs, rfl, ha, ra, h, hn⟩
  · exact False.elim h
end
end Pd

/-! tuple * 0, tuple * 1, () * n; calls by keywords alone; repr. -/
namespace Pd
open PySem L2 PySem.Spec PyProof.Rows

theorem mul_same (l : Addr) (items : Array Value) (n : Nat) (dd : Option Addr) (sl : Array (Option Value)) (x : Int) (u : Tok) (c0 : (decide (x < -(2 ^ 63)) || decide (x ≥ 2 ^ 63)) = false) (c1 : (items.isEmpty || x == 1) = true) :
    Meets (Builtin.«tuple.__mul__» ⟨[.ref l, .int x u], []⟩) (fun _ R s => s.heap.get? l = some { cls := .type "tuple", dict := dd, data := .seq items n, slots := sl } ∧ R (.ok (.ret (.ref l))) s) :=
  .of_wp fun prog w A R s h => by
    obtain ⟨hp, g, d, tk, os⟩ := s
    obtain ⟨hl, h⟩ := h
    have f1 := AutoSeq1.idx_int
    wp_walk using wpAny_loadPart' hl
    repeat (first
      | (refine wpAny_ite_false (decide_eq_false (by rw [c0]; exact Bool.false_ne_true)) ?_; wp_walk using wpAny_loadPart' hl)
      | (refine wpAny_ite_true (decide_eq_true c1) ?_; wp_walk using wpAny_loadPart' hl))
    exact ⟨_, rfl, h⟩
theorem mul_zero (l : Addr) (items : Array Value) (n : Nat) (dd : Option Addr) (sl : Array (Option Value)) (x : Int) (u : Tok) (c0 : (decide (x < -(2 ^ 63)) || decide (x ≥ 2 ^ 63)) = false) (c1 : (items.isEmpty || x == 1) = false) (c2 : (decide (x ≤ 0) || items.isEmpty) = true) :
    Meets (Builtin.«tuple.__mul__» ⟨[.ref l, .int x u], []⟩) (fun _ R s => s.heap.get? l = some { cls := .type "tuple", dict := dd, data := .seq items n, slots := sl } ∧
      R (.ok (.ret (.ref s.heap.objs.size))) { s with heap := s.heap.push { cls := .type "tuple", data := .seq #[] }, toks := s.toks }) :=
  .of_wp fun prog w A R s h => by
    obtain ⟨hp, g, d, tk, os⟩ := s
    obtain ⟨hl, h⟩ := h
    have f1 := AutoSeq1.idx_int
    wp_walk using wpAny_loadPart' hl
    repeat (first
      | (refine wpAny_ite_false (decide_eq_false (by rw [c0]; exact Bool.false_ne_true)) ?_; wp_walk using wpAny_loadPart' hl)
      | (refine wpAny_ite_false (decide_eq_false (by rw [c1]; exact Bool.false_ne_true)) ?_; wp_walk using wpAny_loadPart' hl)
      | (refine wpAny_ite_true (decide_eq_true c2) ?_; wp_walk using wpAny_loadPart' hl))
    exact ⟨_, rfl, h⟩
section
variable {X : Cx}
theorem op_repS : OpR X (binaryOp .Mult) (fun x y H Q => ∃ l k xs, x = .ref l ∧ y = .int k ∧ SqT X.K H l xs ∧ -1000 ≤ k ∧ k ≤ 1000 ∧ (((xs = [] ∨ k = 1) ∧ Q (.ref l) H) ∨ (xs ≠ [] ∧ k ≤ 0 ∧ ∀ p, H p = none → Q (.ref p) (upd H p (.tup []))))) := by
  intro pins s σ H x y v u Q I rx ry h
  obtain ⟨l, k, xs, rfl, rfl, hT, h1, h2, hq⟩ := h
  cases rx
  obtain ⟨t, rfl⟩ := ry
  obtain ⟨its, r, ⟨⟨cls, dd, data, sl⟩, ho, hc, n, hd⟩, hs⟩ := I.tuple hT
  simp only at hc hd
  subst hc hd
  have hle : its.length = xs.length := r.length.symm
  have c0 : (decide (k < -(2 ^ 63)) || decide (k ≥ 2 ^ 63)) = false := by
    rw [decide_eq_false (by omega), decide_eq_false (by omega)] <;> rfl
  have nilI : xs = [] → its = [] := fun e => List.eq_nil_of_length_eq_zero (by rw [hle, e]; rfl)
  rcases hq with ⟨e, q⟩ | ⟨e, k0, q⟩
  · have c1 : (its.toArray.isEmpty || k == 1) = true := by
      rcases e with e | e
      · rw [nilI e]; rfl
      · rw [e, beq_self_eq_true, Bool.or_true]
    exact wpAny_binaryOp_repeat_ref (T := "tuple") (U := "int") (by decide) ⟨_, ho, rfl⟩ (fun s' => typeIs_int s' k t) noFill_tuple_mul F.fills_int_mul F.slot_int_rmul repeat_tuple F.slot_int_index.lookup
      (call_meets F.slot_int_rmul (typeIs_int s k t) F.entry_int_rmul (F.args_int_rmul_2 _ _) (int_rmul_tuple k t l its.toArray n dd sl)
        ⟨ho, rfl, ⟨_, ho, rfl⟩, call_meets F.slot_tuple_mul ⟨_, ho, rfl⟩ F.entry_tuple_mul (F.args_tuple_mul_2 _ _) (mul_same l its.toArray n dd sl k t c0 c1) ⟨ho, .ref l, H, I, rfl, q⟩⟩)
  · have hn : its ≠ [] := fun z => e (List.eq_nil_of_length_eq_zero (by rw [← hle, z]; rfl))
    have hi : its.toArray.isEmpty = false := by
      cases its with
      | nil => exact absurd rfl hn
      | cons a b => rfl
    have c1 : (its.toArray.isEmpty || k == 1) = false := by
      rw [hi, Bool.false_or]
      exact beq_eq_false_iff_ne.mpr (by omega)
    have c2 : (decide (k ≤ 0) || its.toArray.isEmpty) = true := by
      rw [decide_eq_true k0, Bool.true_or]
    exact wpAny_binaryOp_repeat_ref (T := "tuple") (U := "int") (by decide) ⟨_, ho, rfl⟩ (fun s' => typeIs_int s' k t) noFill_tuple_mul F.fills_int_mul F.slot_int_rmul repeat_tuple F.slot_int_index.lookup
      (call_meets F.slot_int_rmul (typeIs_int s k t) F.entry_int_rmul (F.args_int_rmul_2 _ _) (int_rmul_tuple k t l its.toArray n dd sl)
        ⟨ho, rfl, ⟨_, ho, rfl⟩, call_meets F.slot_tuple_mul ⟨_, ho, rfl⟩ F.entry_tuple_mul (F.args_tuple_mul_2 _ _) (mul_zero l its.toArray n dd sl k t c0 c1 c2)
          ⟨ho, .ref s.heap.objs.size, _, I.laid (t' := s.toks) (o := .tup []) (fun b ob q => Heap.get?_push_of_some _ q) (Nat.le_refl _) ⟨Nat.zero_le _, [], .nil, IsTup.new _ _⟩, rfl, q _ (I.hok.fresh (Nat.le_refl _))⟩⟩)
/-- tuple * int, any -/
def opMulT : D → D → T D
  | .tup a, .int k => cond (a.isEmpty || decide (k = 1)) (cond (decide (-1000 ≤ k) && decide (k ≤ 1000)) (.ret (.tup a)) .fail) (cond (decide (k ≤ 0)) (cond (decide (-1000 ≤ k)) (.ret (.tup [])) .fail) (opMul (.tup a) (.int k)))
  | x, y => opMul x y
theorem os_mulT : OpSnd X (binaryOp .Mult) opMulT := fun {π N H x y dx dy Q} hn rx ry h => by
  unfold opMulT at h
  split at h
  · rename_i ds k
    cases c : (ds.isEmpty || decide (k = 1)) with
    | true =>
      rw [c] at h
      obtain ⟨hb, h⟩ := cond_all (show (cond (decide (-1000 ≤ k) && decide (k ≤ 1000)) (T.ret (D.tup ds)) .fail).all _ from h)
      simp only [Bool.and_eq_true, decide_eq_true_eq] at hb
      obtain ⟨a, vs, rfl, ha, ra⟩ := id rx.tupE
      cases ry
      refine ⟨_, op_repS, a, k, vs, rfl, rfl, ha, hb.1, hb.2, .inl ⟨?_, h _ _ (Ex.refl hn.pot) rx⟩⟩
      rcases Bool.or_eq_true_iff.mp c with z | z
      · exact .inl (ra.nil_of.mpr (by simpa using z))
      · exact .inr (of_decide_eq_true z)
    | false =>
      rw [c] at h
      cases c2 : decide (k ≤ 0) with
      | true =>
        rw [c2] at h
        obtain ⟨hb, h⟩ := cond_all (show (cond (decide (-1000 ≤ k)) (T.ret (D.tup [])) .fail).all _ from h)
        have k0 := of_decide_eq_true c2
        obtain ⟨a, vs, rfl, ha, ra⟩ := id rx.tupE
        cases ry
        refine ⟨_, op_repS, a, k, vs, rfl, rfl, ha, of_decide_eq_true hb, by omega, .inr ⟨fun e => ?_, k0, fun p hp => Kd.new h hn .nil hp⟩⟩
        rw [ra.nil_of.mp e] at c
        cases c
      | false =>
        rw [c2] at h
        exact os_mul hn rx ry h
  · exact os_mul hn rx ry h
end

/-! ### calls by keywords alone -/
def pickD (perm : List Nat) (ds : List D) : List D := perm.map fun i => ds.getD i .non
def KBind (K : PySem.W.Frag) (fd : FuncData) (ps ks : List Str) (perm : List Nat) : Prop := ∀ (s : Shared) (us : List Value), K.In s.heap → us.length = ks.length → BindsTo s fd ⟨[], ks.zip us⟩ (ps.zip (perm.map fun i => us.getD i .none))
def eCallK (n : Nat) (perm : List Nat) (F : List D → T D) (ms : Rho → T (List D)) : Rho → T D := fun ρ => (ms ρ).bind fun ds => cond (ds.length == n) (F (pickD perm ds)) .fail
theorem vals_pick {vs : List V} {us : List Value} (r : Vals vs us) : ∀ perm : List Nat, Vals (perm.map fun i => vs.getD i .non) (perm.map fun i => us.getD i .none)
  | [] => .nil
  | i :: perm => by
    refine .cons ?_ (vals_pick r perm)
    show RelV (vs.getD i .non) (us.getD i .none)
    rw [List.getD_eq_getElem?_getD, List.getD_eq_getElem?_getD]
    cases q : vs[i]? with
    | none =>
      have : us[i]? = none := List.getElem?_eq_none (by have := List.getElem?_eq_none_iff.mp q; rw [← r.length]; exact this)
      rw [this]
      rfl
    | some v =>
      obtain ⟨u, hu, ru⟩ := r.get q
      rw [hu]
      exact ru
theorem rvl_pick {K : PySem.W.Frag} {P : Program} {w : World} {π : Addr} {H : Hp} {vs : List V} {ds : List D} (r : RvL K P w π H vs ds) : ∀ perm : List Nat, RvL K P w π H (perm.map fun i => vs.getD i .non) (pickD perm ds)
  | [] => .nil
  | i :: perm => by
    refine .cons ?_ (rvl_pick r perm)
    show Rv K P w π H (vs.getD i .non) (ds.getD i .non)
    rw [List.getD_eq_getElem?_getD, List.getD_eq_getElem?_getD]
    cases q : ds[i]? with
    | none =>
      have : vs[i]? = none := List.getElem?_eq_none (by have := List.getElem?_eq_none_iff.mp q; rw [r.length]; exact this)
      rw [this]
      exact .non
    | some d =>
      obtain ⟨v, hv, rv⟩ := r.get q
      rw [hv]
      exact rv
section
variable {X : Cx} {pos : Pos}
theorem s_callK {k n : Nat} {f : Addr} {fd : FuncData} {ps ks : List Str} {perm : List Nat} {F : List D → T D} {x : Str} {p : Pos} {kws : List Keyword} {ms : Rho → T (List D)} (G : FnOk X.prog X.w X.K X.mg X.base CX0 k f fd ps (spD X.K X.prog X.w n F)) (hr : Room k X.A) (hm : X.mg x = some (.ref f)) (hk : PySem.W.keepIn X.K (.ref f) = true)
    (hb : KBind X.K fd ps ks perm) (hp : perm.length = n) (hkn : ks.length = n) (ha : SndK X kws ms) (hg : Gl X x := by rfl) (hall : (backToKw pos (keywordEach kws X.env)).all (·.1.isSome) = true := by rfl) (hks : (backToKw pos (keywordEach kws X.env)).filterMap (·.1) = ks := by rfl)
    (hdb : (x == ("__debug__" : Str)) = false := by decide) (hpl : ((backTo pos (starEach [] X.env)).any (·.1) || (backToKw pos (keywordEach kws X.env)).any (·.1.isNone)) = false := by rfl) : Snd X (.Call (.Name x p) [] kws pos) (eCallK n perm F ms) := fun {π N0 H0 N H σ ρ Q} I h => by
  refine ⟨fun σ H Q => wpK X kws σ H fun zs H2 => zs.length = n ∧ spD X.K X.prog X.w n F (perm.map fun i => zs.getD i .non) H2 Q E0, ⟨fun pins s σ H Q J q => ?_⟩, ?_⟩
  · refine wpAny_Call_Name_kw (ld_glob J hg hm ?_ hdb)
    refine PySem.W.callWith_KW0 (h₀ := X.base) J.ok.mod.kin hk hall (thn (pk_wp.run pos pins s σ H _ J q) fun ws s2 ⟨zs, H2, I2, rz, hz, q2⟩ => ⟨I2.kIn, ?_⟩) hpl
    rw [hks]
    show wpAny _ _ (call (.ref f) [] (ks.zip ws)) _ _ _
    have r2 := vals_pick rz perm
    refine wpAny_call (codeAny_mono (G.run X.A X.stack s2 H2 ⟨[], ks.zip ws⟩ _ _ Q E0 hr I2.env0 (hb s2 ws I2.kIn (by rw [← rz.length, hz, hkn])) r2 q2) fun r s' hq => ?_)
    cases r with
    | error e => exact pass0 pins σ H2 s2 e s' I2 hq
    | ok fl =>
      cases fl with
      | ret u => exact I2.after hq
      | next => exact False.elim hq
      | brk => exact False.elim hq
      | cont => exact False.elim hq
  · refine ha I (T.all_mono (fun ds hd => ?_) (T.all_bind.mp h))
    intro vs H2 e1 r
    obtain ⟨hn, hd⟩ := cond_all hd
    have hn : ds.length = n := by simpa using hn
    exact ⟨by rw [r.length]; exact hn, π, N, pickD perm ds, I.hn.ext e1, rvl_pick r perm, by rw [List.length_map]; exact hp, T.all_mono (fun d q v H3 e3 r3 => q v H3 (e1.trans e3) r3) hd⟩
/-! ### repr of lists of data -/
def bRepr : List D → T D
  | [.lst ds] => match D.py (.lst ds) with
    | some p => cond (p.showable && !p.hasDict && decide (p.depth ≤ 32) && decide (p.shown.length ≤ 100000)) (.ret (.str p.shown)) .fail
    | none => .fail
  | _ => .fail
theorem cs_repr (hg : X.A.guards = some []) (hu : X.A.units + 64 < cLine) : CaSnd X (.builtin "repr") bRepr := fun {π N H xs ds Q} hn r h => by
  unfold bRepr at h
  split at h
  · rename_i ds
    split at h
    · rename_i p hp
      obtain ⟨hb, h⟩ := cond_all h
      simp only [Bool.and_eq_true, Bool.not_eq_true', decide_eq_true_eq] at hb
      obtain ⟨⟨⟨b1, b2⟩, b3⟩, b4⟩ := hb
      cases r with
      | cons r t =>
      cases t
      refine ⟨fun ys H Q => ∃ a, ys = [.ref a] ∧ Dp X.K H (.ref a) p ∧ Q (.str p.shown) H, ?_, ?_⟩
      · intro pins s σ H ys vs Q I r q
        obtain ⟨a, rfl, hd, hq⟩ := q
        obtain ⟨v, rfl, rx⟩ := vals1 r
        cases rx
        obtain ⟨as, rd⟩ := Dp.reads I p (.ref a) (.ref a) hd rfl
        exact repr_of_reads' rd b1 (PyData.noDict_hsm b2) hg (by omega) (fun _ _ q => q) (fun h' u tk hk => ⟨.str p.shown, H, I.kept (t' := tk) hk, ⟨u, rfl⟩, hq⟩) (Nat.le_trans b4 (by decide))
      · obtain ⟨a, vs, rfl, ha, _, _, ra⟩ := id r.lstE
        exact ⟨a, rfl, r.dp hp, h _ _ (Ex.refl hn.pot) (.str _)⟩
    · exact False.elim h
  · exact False.elim h
end
end Pd

/-! Promises of defs that are called where no object's repr is under way. -/
namespace Pd
open PySem L2 PySem.Spec PyProof.Rows

structure FnG (P : Program) (w : World) (K : PySem.W.Frag) (mg : Str → Option Value) (base : Heap) (CX : CXT) (k : Nat) (f : Addr) (fd : FuncData) (ps : List Str) (sp : Sp) : Prop where
  len : ∀ zs Hx Qx Ex, sp zs Hx Qx Ex → zs.length = ps.length
  run : ∀ (A : Around) (out : List Env) (s : Shared) (H : Hp) (as : Args) (us : List Value) (vs : List V) (Q : VK) (E : XK), Room k A → A.guards = some [] → Env0 P w K mg base A out s H → BindsTo s fd as (ps.zip us) → Vals vs us → sp vs H Q E →
    codeAny (model P w) A (.call (.ref f) as) (CR CX out P w H s Q E) s
theorem fnG_of {CX : CXT} {P : Program} {w : World} {K : PySem.W.Frag} {mg : Str → Option Value} {base : Heap} {k : Nat} {f : Addr} {name qual : Str} {params : Arguments} {body : List Stmt} {scope : Scope} {dV kV doc pm cdv ct oc : Value} {an od : Option Addr}
    {osl : Array (Option Value)} {Nm ps : List Str} {sp : Sp} (lk : K.lookup f = some ⟨oc, od, .func (PySem.W.fnOf name qual params body scope dV kV doc pm an cdv ct), osl⟩) (hcd : PySem.W.codeIn K cdv qual = true) (S : FnScope Nm ps scope)
    (len : ∀ zs Hx Qx Ex, sp zs Hx Qx Ex → zs.length = ps.length)
    (hb : ∀ (A : Around) (out : List Env) (s : Shared) (H : Hp) (vs : List V) (Q : VK) (E : XK), Room k (A.deeper (envOfC qual scope s.heap.objs.size f cdv)) → A.guards = some [] → sp vs H Q E →
      ∃ t, PSs (cxOf CX P w K mg base Nm qual scope f cdv A out s H E) body t ∧ t { nx := fun _ H1 => Q .non H1, rt := Q } (start Nm vs) H) :
    FnG P w K mg base CX (k + 1) f (PySem.W.fnOf name qual params body scope dV kV doc pm an cdv ct) ps sp := by
  refine ⟨len, fun A out s H as us vs Q E hr hgd e0 hbd r hsp => ?_⟩
  have hl := len _ _ _ _ hsp
  have hK : K.In s.heap := e0.mod.kin.keeps fun b o e => (e0.bs b o e).1
  have hnl : s.heap.NoLimit := e0.mod.nolimit.keeps fun b o e => (e0.bs b o e).1
  have hkd : ∀ y ∈ ps.zip us, scope.names.lookup y.1 = some .local ∨ (scope.names.lookup y.1 = some .cell ∧ ((cellsFrom (s.heap.objs.size + 1) scope.names []).lookup y.1).isSome = true) := by
    intro ⟨n, v⟩ hy
    rcases S.par n (List.of_mem_zip hy).1 with q | q
    · exact Or.inl q
    · exact Or.inr ⟨q, PySem.W.cellsFrom_some _ _ _ (.inl q)⟩
  refine codeAny_call_function hr.depth (hK _ _ lk) rfl S.co S.gen rfl (PySem.W.codeRec_of hK hcd) (hbd _ _ _ _ (wpAny_newFunctionEnv_cells S.kind hkd fun env he s1 x => ?_))
  subst he
  refine ⟨hnl.keeps x.toInCall.keep, codeAny_func ?_⟩
  obtain ⟨t, ht, hq⟩ := hb A out s H vs Q E (hr.deeper _) hgd hsp
  have J0 := inv_start (E := E) (CX := CX) S hr.hd e0 hl r x
  refine wpAny_mono (ht.run [] s1 (start Nm vs) H _ J0 hq) (fun fl s2 hs => ?_) fun _ _ z => z
  cases fl with
  | ret u =>
    obtain ⟨v, σ2, H2, J, rv, q⟩ := hs
    exact ⟨v, H2, J.os, J.bare, J.base, J.hok, rv, q⟩
  | next =>
    obtain ⟨σ2, H2, J, q⟩ := hs
    exact ⟨V.non, H2, J.os, J.bare, J.base, J.hok, rfl, q⟩
  | brk =>
    obtain ⟨_, _, _, q⟩ := hs
    exact q.elim
  | cont =>
    obtain ⟨_, _, _, q⟩ := hs
    exact q.elim
section
variable {P : Program} {w : World} {K : PySem.W.Frag} {mg : Str → Option Value} {base : Heap}
theorem okG {x qual : Str} {st : Stmt} {f : Addr} {fd : FuncData} {Nm ps : List Str} {k : Nat} {sp : Sp} (F : Fun K x qual st f fd) (S : FnScope Nm ps (defScope st)) (len : ∀ zs Hx Qx Ex, sp zs Hx Qx Ex → zs.length = ps.length)
    (hb : ∀ (cdv : Value) (A : Around) (outer : List Env) (s : Shared) (H : Hp) (vs : List V) (Q : VK) (E : XK), Room k (A.deeper (PyProof.Rows.envOfC qual (defScope st) s.heap.objs.size f cdv)) → A.guards = some [] → sp vs H Q E →
      ∃ t, PSs (cxOf CX0 P w K mg base Nm qual (defScope st) f cdv A outer s H E).nox (defBody st) t ∧ t { nx := fun _ H1 => Q .non H1, rt := Q } (start Nm vs) H) : FnG P w K mg base CX0 (k + 1) f fd ps sp := by
  obtain ⟨oc, od, kV, doc, pm, an, cdv, ct, osl, rfl, lk, hcd⟩ := F.ex
  refine fnG_of lk hcd S len fun A outer s H vs Q E hr hgd h => ?_
  obtain ⟨t, ht, hq⟩ := hb cdv A outer s H vs Q E hr hgd h
  exact ⟨t, ht.nox, hq⟩
theorem fnG_ok {x qual : Str} {st : Stmt} {f : Addr} {fd : FuncData} {Nm ps : List Str} {k n p : Nat} {m : Rho → T Out} {G : List D → T D} (F : Fun K x qual st f fd) (S : FnScope Nm ps (defScope st)) (hn : Nm.length = n) (hp : ps.length = p) (hG : G = runB n m)
    (hb : ∀ (cdv : Value) (A : Around) (outer : List Env) (s : Shared) (H : Hp) (E : XK), Room k (A.deeper (PyProof.Rows.envOfC qual (defScope st) s.heap.objs.size f cdv)) → A.guards = some [] → SndB (cxOf CX0 P w K mg base Nm qual (defScope st) f cdv A outer s H E).nox (defBody st) m) :
    FnG P w K mg base CX0 (k + 1) f fd ps (spD K P w p G) := by
  subst hn hp hG
  obtain ⟨oc, od, kV, doc, pm, an, cdv, ct, osl, rfl, lk, hcd⟩ := F.ex
  refine fnG_of lk hcd S (fun vs H Q E h => ?_) (fun A outer s H vs Q E hr hgd h => ?_)
  · obtain ⟨π, N, ds, hn, r, hl, _⟩ := h
    exact hl
  · obtain ⟨π, N, ds, hn, r, hl, hall⟩ := h
    have z := hb cdv A outer s H E hr hgd (De := { nx := fun _ H' => Q .non H', rt := Q }) (env_start hn r) (T.all_mono (fun o ho => by
      cases o with
      | nx ρ => exact fun N' H' σ' I => ho .non H' ⟨I.ex, I.hn.pot⟩ .non
      | rt d => exact fun v H' e r => ho v H' e r
      | bk ρ => exact False.elim ho
      | ct ρ => exact False.elim ho) (T.all_bind.mp hall))
    obtain ⟨t, ht, hq⟩ := z
    exact ⟨t, ht.nox, hq⟩
end
section
variable {X : Cx} {e : Expr} {es : List Expr} {pos : Pos}
theorem pe_callG {k : Nat} {f : Addr} {fd : FuncData} {ps : List Str} {sp : Sp} {x : Str} {p : Pos} {t : TA} (G : FnG X.prog X.w X.K X.mg X.base CX0 k f fd ps sp) (hr : Room k X.A) (hgd : X.A.guards = some []) (hm : X.mg x = some (.ref f)) (hk : PySem.W.keepIn X.K (.ref f) = true) (hb : Binds X.K fd ps [])
    (ha : PA X (e :: es) t) (hg : Gl X x := by rfl) (hdb : (x == ("__debug__" : Str)) = false := by decide) (he : starEach (e :: es) X.env = (false, eval e X.env) :: starEach es X.env := by rfl) (hpl : (backTo pos (starEach es X.env)).any (·.1) = false := by rfl) :
    PE X (.Call (.Name x p) (e :: es) [] pos) (fun σ H Q => t σ H fun zs H2 => sp zs H2 Q E0) := by
  refine ⟨fun pins s σ H Q J q => ?_⟩
  refine wpAny_Call_Name_kw (ld_glob J hg hm ?_ hdb)
  refine PySem.W.callWith_K (h₀ := X.base) J.ok.mod.kin hk (thn (ha.run pos pins s σ H _ J q) fun us s1 ⟨vs, H1, I1, r, q⟩ => ⟨I1.kIn, ?_⟩) he hpl
  have hl : us.length = ps.length := by rw [← r.length]; exact G.len _ _ _ _ q
  have b0 := hb s1 us I1.kIn (by rw [List.append_nil]; exact hl)
  rw [List.append_nil] at b0
  show wpAny _ _ (call (.ref f) us) _ _ _
  refine wpAny_call (codeAny_mono (G.run X.A X.stack s1 H1 ⟨us, []⟩ us vs Q E0 hr hgd I1.env0 b0 r q) fun r s' hq => ?_)
  cases r with
  | error e => exact pass0 pins σ H1 s1 e s' I1 hq
  | ok fl =>
    cases fl with
    | ret u => exact I1.after hq
    | next => exact False.elim hq
    | brk => exact False.elim hq
    | cont => exact False.elim hq
theorem s_callG {k n : Nat} {f : Addr} {fd : FuncData} {ps : List Str} {F : List D → T D} {x : Str} {p : Pos} {ms : Rho → T (List D)} (G : FnG X.prog X.w X.K X.mg X.base CX0 k f fd ps (spD X.K X.prog X.w n F)) (hr : Room k X.A) (hgd : X.A.guards = some []) (hm : X.mg x = some (.ref f)) (hk : PySem.W.keepIn X.K (.ref f) = true) (hb : Binds X.K fd ps [])
    (ha : SndA X (e :: es) ms) (hg : Gl X x := by rfl) (hdb : (x == ("__debug__" : Str)) = false := by decide) (he : starEach (e :: es) X.env = (false, eval e X.env) :: starEach es X.env := by rfl) (hpl : (backTo pos (starEach es X.env)).any (·.1) = false := by rfl) :
    Snd X (.Call (.Name x p) (e :: es) [] pos) (eCall n F ms) := fun {π N0 H0 N H σ ρ Q} I h =>
  ⟨_, pe_callG G hr hgd hm hk hb pa_wp hg hdb he hpl, ha I (T.all_mono (fun ds hd vs H2 e1 r => by
    obtain ⟨hn, hd⟩ := cond_all hd
    exact ⟨π, N, ds, I.hn.ext e1, r, by rw [r.length]; exact by simpa using hn, T.all_mono (fun d q v H3 e3 r3 => q v H3 (e1.trans e3) r3) hd⟩) (T.all_bind.mp h))⟩
end
/-! ### the law is called -/
theorem law_callG {P : Program} {w : World} {K : PySem.W.Frag} {mg mb : Str → Option Value} {k : Nat} {fa a : Addr} {fd : FuncData} {x : Str} {sp : Sp} {s0 : Shared} {vs : List Value} {ns : List Int}
    (hK : K.In s0.heap) (hns : s0.heap.Ns mainGlobals mg) (hb : s0.heap.Ns builtinsNs mb) (hbb : ∀ x : Str, x ≠ "__name__" → mb x = bootBuiltins x) (hlim : s0.heap.NoLimit) (hg : s0.gens = #[])
    (ha : s0.heap.get? a = some { cls := .type "list", data := .seq vs.toArray }) (hi : IntsAre vs ns) (hl : ns.length ≤ sizeLine) (hr : Room k callerA)
    (F : ∀ base : Heap, K.In base → base.Ns mainGlobals mg → FnG P w K mg base CX0 k fa fd [x] sp) (hbind : ∀ (s : Shared) (u : Value), BindsTo s fd ⟨[u], []⟩ [(x, u)])
    (hsp : ∀ H : Hp, Only H → SqL K H a (ns.map V.int) → sp [.ref a] H (fun v _ => v = .bl true) fun _ _ _ => False) :
    codeAny (model P w) callerA (.call (.ref fa) ⟨[.ref a], []⟩) (fun r s2 => r = .ok (.ret (.bool true)) ∧ OldK s0.heap s2.heap ∧ s2.os = s0.os ∧ AllBare s2.gens) s0 := by
  have rv := vals_ints hi
  have hvl := hi.length
  -- H tracks the script at most
  have main : ∀ H : Hp, Only H → SqL K H a (ns.map V.int) → HOk P w H s0.heap → (∀ b, H b ≠ none → b = a) → (H a ≠ none → K.lookup a = none) →
      codeAny (model P w) callerA (.call (.ref fa) ⟨[.ref a], []⟩) (fun r s2 => r = .ok (.ret (.bool true)) ∧ OldK s0.heap s2.heap ∧ s2.os = s0.os ∧ AllBare s2.gens) s0 := by
    intro H hO hS hok hA hn
    have old : ∀ {b : Addr} {o : Obj}, s0.heap.get? b = some o → H b = none → (hidT s0.heap H).get? b = some o := fun e n => hidT_get e n
    have dicts : ∀ {b : Addr} {o : Obj} {es : Array DictEntry} {ep : Nat}, s0.heap.get? b = some o → o.data = .dict es ep → H b = none := by
      intro b o es ep e d
      cases q : H b with
      | none => rfl
      | some u =>
        have eb := hA b (by rw [q]; simp)
        rw [eb, ha] at e
        cases e
        exact absurd d (fun z => by cases z)
    have spaces : ∀ {b : Addr} {m : Str → Option Value}, s0.heap.Ns b m → (hidT s0.heap H).Ns b m := fun ⟨o, es, ep, e, d, r⟩ => ⟨o, es, ep, old e (dicts e d), d, r⟩
    have kin : K.In (hidT s0.heap H) := fun b o e => old (hK b o e) (by
      cases q : H b with
      | none => rfl
      | some u =>
        have eb := hA b (by rw [q]; simp)
        rw [eb] at q e
        rw [hn (by rw [q]; simp)] at e
        cases e)
    have md : Mod K mg (hidT s0.heap H) := ⟨kin, spaces hns, ⟨mb, spaces hb, hbb⟩, let ⟨mc, h1, h2⟩ := hlim; ⟨mc, spaces h1, h2⟩⟩
    have e0 : Env0 P w K mg (hidT s0.heap H) callerA [] s0 H := ⟨rfl, md, fun b o e => of_hidT e, Nat.le_of_eq (hidT_size _ _), trivial, fun b hb => absurd (show b ∈ ([] : List Addr) from hb) (by simp), hok, .of_eq hg⟩
    refine codeAny_mono ((F _ kin (spaces hns)).run callerA [] s0 H ⟨[.ref a], []⟩ [.ref a] [.ref a] _ _ hr rfl e0 (hbind s0 (.ref a)) (.cons rfl .nil) (hsp H hO hS)) fun r s2 h => ?_
    cases r with
    | error e => exact False.elim h
    | ok fl =>
      cases fl with
      | ret u =>
        obtain ⟨v, H2, os, bare, un, hok2, rr, q⟩ := h
        cases (show v = .bl true from q)
        cases (show u = Value.bool true from rr)
        refine ⟨rfl, OldK.of_keep fun b o e => ?_, os, bare⟩
        cases q : H b with
        | none => exact un.keep b o e q (by simp [frs]) (by simp)
        | some u =>
          rcases hO b with z | ⟨ob, xs, z⟩
          · rw [q] at z; cases z
          · obtain ⟨g1, _⟩ := hok b _ z
            obtain ⟨g2, _⟩ := hok2 b _ (un.frzs b ob _ z)
            rw [e] at g1
            cases g1
            exact g2
      | next => exact False.elim h
      | brk => exact False.elim h
      | cont => exact False.elim h
  cases hk : K.lookup a with
  | some o =>
    have e := hK a o hk
    rw [ha] at e
    cases e
    exact main (fun _ => none) (fun _ => .inl rfl) (.inr ⟨_, vs.toArray, _, hk, rfl, rfl, rfl, by rw [List.size_toArray, hvl]; exact hl, by simpa using rv⟩) (fun b u z => nomatch (show (none : Option HO) = some u from z)) (fun b z => absurd rfl z) fun z => absurd rfl z
  | none =>
    let H : Hp := fun b => if b = a then some (.frz { cls := .type "list", data := .seq vs.toArray } (.lst (ns.map V.int))) else none
    have at_a : H a = some (.frz { cls := .type "list", data := .seq vs.toArray } (.lst (ns.map V.int))) := if_pos rfl
    have off : ∀ b, b ≠ a → H b = none := fun b nb => if_neg nb
    refine main H (fun b => ?_) (.inl (.inr ⟨_, at_a⟩)) (fun b u z => ?_) (fun b z => ?_) fun _ => hk
    · by_cases q : b = a
      · exact .inr ⟨_, _, by rw [q]; exact at_a⟩
      · exact .inl (off b q)
    · by_cases q : b = a
      · subst q
        rw [at_a] at z
        cases z
        exact ⟨ha, by rw [List.length_map]; exact hl, vs, _, rv, ha⟩
      · rw [off b q] at z; cases z
    · by_cases q : b = a
      · exact q
      · exact absurd (off b q) z
theorem walkG {l : PySem.W.OpenLaw} {n k : Nat} {q : Program} {loose : List Str} {XP : (Str → Option Value) → Heap → Prop} {YP : World → Heap → Prop} {d : DefRec} {K : Params → PySem.W.Frag} {sp : World → Sp} {x : Str}
    (hn : l.most = some n) (hn2 : n ≤ sizeLine) (hdf : d.params.defaults = []) (hr : Room k callerA) (hY : ∀ (w : World) (h : Heap), YP w h → (K w.params).In h)
    (F : ∀ (w : World) (mg : Str → Option Value) (fa : Addr) (h : Heap), (K w.params).In h → h.Ns mainGlobals mg → mg d.name = some (.ref fa) →
      ∃ fd : FuncData, (∀ (s : Shared) (u : Value), BindsTo s fd ⟨[u], []⟩ [(x, u)]) ∧ ∀ base : Heap, (K w.params).In base → base.Ns mainGlobals mg → FnG l.prog w (K w.params) mg base CX0 k fa fd [x] (sp w))
    (hsp : ∀ (w : World) (H : Hp) (a : Addr) (ns : List Int), ns.length ≤ n → Only H → SqL (K w.params) H a (ns.map V.int) → sp w [.ref a] H (fun v _ => v = .bl true) fun _ _ _ => False) :
    PySem.W.WalkO q loose XP YP l.row.toRowW d [] (fun f vs => PySem.call f vs) := by
  refine Att.attach_call hn hdf fun w s₀ s₁ mg mb fa o pm cd doc a vs ns G Y ho hd hcd hmg hobj hints hlen hg => ?_
  have kx := hY w _ Y
  obtain ⟨fd, hb, hF⟩ := F w mg fa _ kx G.T.g hmg
  exact law_callG kx G.T.g G.T.b G.T.builtins G.T.nolimit hg hobj hints (Nat.le_trans hlen hn2) hr hF hb fun H hO hS => hsp w H a ns hlen hO hS
/-! draws -/
def f__law_draw : List D → T D
  | [.pot, .int n] => cond (decide (0 < n) && decide (n ≤ 1000000)) (.draw n.toNat fun i => .ret (.int i)) .fail
  | _ => .fail
end Pd

/-! Instances of the program's own classes as values: made, their attributes, methods, properties read. -/
namespace Pd
open PySem L2 PySem.Spec PyProof.Rows

/-- the class of that name -/
def ClsAt (K : PySem.W.Frag) (c : Str) (C : Addr) : Prop := PySem.W.nsIn K mainGlobals c = some (some (.ref C))
theorem ClsAt.one {K : PySem.W.Frag} {c : Str} {C C2 : Addr} (h : ClsAt K c C) (h2 : PySem.W.nsIn K mainGlobals c = some (some (.ref C2))) : C2 = C := by
  have e := h.symm.trans h2
  cases e
  rfl
/-- __init__'s promise: the new object's attributes from the arguments; all else stays -/
def spI (K : PySem.W.Frag) (P : Program) (w : World) (c : Str) (n : Nat) (F : List D → T (List (Str × D))) : Sp := fun vs H Q _ => ∃ (π : Addr) (N : Addr → Bool) (x dx C : Addr) (args : List V) (ds : List D), vs = .ref x :: args ∧ args.length = n ∧ HN π N H ∧ N x = true ∧ H x = some (.ins C dx []) ∧ ClsAt K c C ∧ RvL K P w π (Hide N H) args ds ∧
  (F ds).all fun fs => ∀ (H' : Hp) (fv : List (Str × V)), (∀ a o, a ≠ π → a ≠ x → H a = some o → H' a = some o) → PotOk H' π → H' x = some (.ins C dx fv) → RvF K P w π (Hide N H') fv fs → Q .non H'
def eMake (c : Str) (n : Nat) (dds : List D) (F : List D → T (List (Str × D))) (ms : Rho → T (List D)) : Rho → T D := fun ρ => (ms ρ).bind fun ds => cond (ds.length == n) ((F (ds ++ dds)).bind fun fs => .ret (.ins c fs)) .fail
section
variable {X : Cx} {e : Expr} {es : List Expr} {pos : Pos} {m : Rho → T D} {ms : Rho → T (List D)}
theorem made_env {π x dx C : Addr} {N : Addr → Bool} {H : Hp} (hn : HN π N H) (hx : H x = none) (hd : H dx = none) (ne : dx ≠ x) : HN π (plus N x) (upd (upd H dx (.own x)) x (.ins C dx [])) ∧ Kp π (Hide N H) (Hide (plus N x) (upd (upd H dx (.own x)) x (.ins C dx []))) ∧ (∀ a o, H a = some o → (upd (upd H dx (.own x)) x (.ins C dx [])) a = some o) := by
  have keep : ∀ a o, H a = some o → (upd (upd H dx (.own x)) x (.ins C dx [])) a = some o := fun a o h => by
    rw [upd_ne (ne_of_none h hx), upd_ne (ne_of_none h hd)]
    exact h
  refine ⟨⟨?_, ?_, fun a h => ?_⟩, fun a o n h => ?_, keep⟩
  · obtain ⟨p, q, h, r⟩ := hn.pot
    exact ⟨p, q, keep _ _ h, r⟩
  · have := hn.pot.ne hx
    simp [plus, hn.npi, this.symm]
  · rcases plus_or h with h | h
    · have q := hn.isS a h
      cases c : H a with
      | none => exact absurd c q
      | some o => rw [keep a o c]; exact fun z => by cases z
    · rw [h, upd_same]; exact fun z => by cases z
  · obtain ⟨na, ha⟩ := hide_some h
    have nx : a ≠ x := ne_of_none ha hx
    rw [hide_in (by simp [plus, na, nx])]
    exact keep a o ha
theorem s_make {k n : Nat} {C f : Addr} {fd : FuncData} {ps : List Str} {c x : Str} {p : Pos} {dvs : List V} {dv : List Value} {dds : List D} {F : List D → T (List (Str × D))} (M : Mk X.K C f) (G : FnOk X.prog X.w X.K X.mg X.base CX0 k f fd ps (spI X.K X.prog X.w c (n + dvs.length) F)) (hr : Room (k + 1) X.A) (hm : X.mg x = some (.ref C)) (at_ : ClsAt X.K c C)
    (hb : Binds X.K fd ps dv) (hd : Vals dvs dv) (hdd : ∀ π H, RvL X.K X.prog X.w π H dvs dds) (ha : SndA X (e :: es) ms) (hg : Gl X x := by rfl) (hdb : (x == ("__debug__" : Str)) = false := by decide) (he : starEach (e :: es) X.env = (false, eval e X.env) :: starEach es X.env := by rfl) (hpl : (backTo pos (starEach es X.env)).any (·.1) = false := by rfl) :
    Snd X (.Call (.Name x p) (e :: es) [] pos) (eMake c n dds F ms) := fun {π N0 H0 N H σ ρ Q} I h =>
  ⟨_, pe_make M G hr hg hm hb hd pass0 pa_wp hdb he hpl, ha I (T.all_mono (fun ds hds vs H1 e1 r x dx hx hdx ne => by
    obtain ⟨hl, hds⟩ := cond_all hds
    have hn := I.hn.ext e1
    obtain ⟨a1, a2, a3⟩ := made_env (C := C) hn hx hdx ne
    have hl : ds.length = n := by simpa using hl
    have Nx : N x = false := hn.new hx
    refine ⟨π, plus N x, x, dx, C, vs ++ dvs, ds ++ dds, rfl, by rw [List.length_append, r.length, hl], a1, plus_self, upd_same, at_, (r.mono a2).append (hdd _ _), T.all_mono (fun fs q H' fv keep pot hx2 rf => ⟨rfl, ?_⟩) (T.all_bind.mp hds)⟩
    have k2 : Kp π (Hide (plus N x) H') (Hide N H') := Kp.less fun a h => plus_old h
    refine q (.ref x) H' ⟨fun a o n h => ?_, pot⟩ (.ins at_ (by rw [hide_in Nx]; exact hx2) (hn.pot.ne hx) (RvF.mono k2 rf))
    have h1 := e1.kp a o n h
    exact keep a o n (ne_of_none h1 hx) (a3 a o h1)) (T.all_bind.mp h))⟩
/-! attributes -/
def fieldD (f : Str) : List (Str × D) → Option D
  | [] => none
  | (g, d) :: r => cond (f == g) (some d) (fieldD f r)
theorem RvF.get {K : PySem.W.Frag} {P : Program} {w : World} {π : Addr} {H : Hp} {f : Str} : ∀ {ds : List (Str × D)} {vs : List (Str × V)} {d : D}, RvF K P w π H vs ds → fieldD f ds = some d → ∃ v, vs.lookup f = some v ∧ Rv K P w π H v d
  | _, _, _, .nil, e => by cases e
  | (g, dg) :: ds, _, d, .cons (v := v) r t, e => by
    unfold fieldD at e
    cases q : f == g with
    | true =>
      rw [q] at e
      cases e
      exact ⟨v, by simp [List.lookup, q], r⟩
    | false =>
      rw [q] at e
      obtain ⟨v', h1, h2⟩ := RvF.get t e
      exact ⟨v', by simp [List.lookup, q, h1], h2⟩
theorem RvF.none_of {K : PySem.W.Frag} {P : Program} {w : World} {π : Addr} {H : Hp} {f : Str} : ∀ {ds : List (Str × D)} {vs : List (Str × V)}, RvF K P w π H vs ds → fieldD f ds = none → vs.lookup f = none
  | _, _, .nil, _ => rfl
  | (g, dg) :: ds, _, .cons r t, e => by
    unfold fieldD at e
    cases q : f == g with
    | true => rw [q] at e; cases e
    | false =>
      rw [q] at e
      simp [List.lookup, q, RvF.none_of t e]
def optT {α : Type} : Option α → T α
  | some d => .ret d
  | none => .fail
theorem optT_all {α : Type} {P : α → Prop} {o : Option α} (h : (optT o).all P) : ∃ d, o = some d ∧ P d := by
  cases o with
  | some d => exact ⟨d, rfl, h⟩
  | none => exact False.elim h
def attrD (c f : Str) : D → T D
  | .ins c2 fs => cond (c2 == c) (optT (fieldD f fs)) .fail
  | _ => .fail
theorem attrD_all {c f : Str} {d : D} {P : D → Prop} (h : (attrD c f d).all P) : ∃ fs d2, d = .ins c fs ∧ fieldD f fs = some d2 ∧ P d2 := by
  unfold attrD at h
  split at h
  · rename_i c2 fs
    obtain ⟨ec, h⟩ := cond_all h
    obtain ⟨d2, q, h⟩ := optT_all h
    exact ⟨fs, d2, by rw [eq_of_beq ec], q, h⟩
  · exact False.elim h
theorem Rv.insE {K : PySem.W.Frag} {P : Program} {w : World} {π : Addr} {N : Addr → Bool} {H : Hp} {v : V} {c : Str} {fs : List (Str × D)} (r : Rv K P w π (Hide N H) v (.ins c fs)) : ∃ a dx C fv, v = .ref a ∧ PySem.W.nsIn K mainGlobals c = some (some (.ref C)) ∧ H a = some (.ins C dx fv) ∧ RvF K P w π (Hide N H) fv fs := by
  cases r with
  | ins hc h n r => exact ⟨_, _, _, _, rfl, hc, (hide_some h).2, r⟩
theorem s_attr {c f : Str} {C : Addr} (at_ : ClsAt X.K c C) (cl : Cls X.K C) (no : NoAttr X.K C f) (ha : Snd X e m) (hb : attributeBase e f X.env (eval e X.env) = eval e X.env := by rfl) : Snd X (.Attribute e f pos) (eUn (attrD c f) m) := fun {π N0 H0 N H σ ρ Q} I h =>
  ⟨_, pe_fld pe_wp hb, ha I (T.all_mono (fun d hd v H2 e2 r => by
    obtain ⟨fs, d2, rfl, q, hd⟩ := attrD_all hd
    obtain ⟨a, dx, C2, fv, rfl, hc, hx, rf⟩ := r.insE
    have e3 := at_.one hc
    subst e3
    obtain ⟨v2, hl, rv⟩ := rf.get q
    exact ⟨a, _, dx, fv, v2, rfl, hx, cl, no, hl, hd v2 H2 e2 rv⟩) (T.all_bind.mp h))⟩

/-! methods, properties -/
def insD (c m : Str) (d : D) : T Unit := match d with
  | .ins c2 fs => cond (c2 == c && (fieldD m fs).isNone) (.ret ()) .fail
  | _ => .fail
theorem insD_all {c m : Str} {d : D} {P : Unit → Prop} (h : (insD c m d).all P) : ∃ fs, d = .ins c fs ∧ fieldD m fs = none ∧ P () := by
  unfold insD at h
  split at h
  · rename_i c2 fs
    obtain ⟨ec, h⟩ := cond_all h
    have ec := Bool.and_eq_true_iff.mp ec
    exact ⟨fs, by rw [eq_of_beq ec.1], by simpa using ec.2, h⟩
  · exact False.elim h
def eMeth (c m : Str) (n : Nat) (F : List D → T D) (ma : Rho → T D) (ms : Rho → T (List D)) : Rho → T D := fun ρ => (ma ρ).bind fun d => (insD c m d).bind fun _ => (ms ρ).bind fun ds => cond (ds.length == n) (F (d :: ds)) .fail
theorem meth_spec {π : Addr} {N : Addr → Bool} {H H1 H2 : Hp} {Q : VK} {n : Nat} {F : List D → T D} {x : V} {d : D} {vs : List V} {ds : List D} (hn : HN π N H) (e12 : Ex π H1 H2) (e : Ex π H H2) (rx : Rv X.K X.prog X.w π (Hide N H1) x d) (r : RvL X.K X.prog X.w π (Hide N H2) vs ds) (hl : ds.length = n) (h : (F (d :: ds)).all (Kd X π N H Q)) :
    spD X.K X.prog X.w (n + 1) F (x :: (vs ++ [])) H2 Q E0 := by
  rw [List.append_nil]
  exact ⟨π, N, d :: ds, hn.ext e, .cons (rx.mono e12.kp.hide) r, by rw [List.length_cons, r.length, hl], T.all_mono (fun _ q v H3 e3 r3 => q v H3 (e.trans e3) r3) h⟩
theorem s_meth {k n : Nat} {C f : Addr} {fd : FuncData} {ps : List Str} {c m : Str} {F : List D → T D} {o : Expr} {mo : Rho → T D} {apos : Pos} {pl : Sem Bool} (at_ : ClsAt X.K c C) (cl : Cls X.K C) (hm : Meth X.K C m f) (G : FnOk X.prog X.w X.K X.mg X.base CX0 k f fd ps (spD X.K X.prog X.w (n + 1) F)) (hr : Room k X.A) (hb : Binds X.K fd ps [])
    (ho : Snd X o mo) (ha : SndA X (e :: es) ms) (hst : starEach (e :: es) X.env = (false, eval e X.env) :: starEach es X.env := by rfl) (hpl : (backTo pos (starEach es X.env)).any (·.1) = false := by rfl)
    (ht : eval (.Call (.Attribute o m apos) (e :: es) [] pos) X.env = (do
      let ov ← eval o X.env
      standAt apos.atName
      let (f, first) ← holding [ov] (getMethod ov m pl)
      callWith pos f first (backTo pos (starEach (e :: es) X.env)) (backToKw pos (keywordEach [] X.env))) := by rfl) :
    Snd X (.Call (.Attribute o m apos) (e :: es) [] pos) (eMeth c m n F mo ms) := fun {π N0 H0 N H σ ρ Q} I h =>
  ⟨_, pe_meth (pl := pl) pe_wp cl hm G hr hb .nil pass0 pa_wp hst hpl ht, ho I (T.all_mono (fun d hd => by
    intro x H1 e1 rx
    obtain ⟨fs, rfl, nf, hd⟩ := insD_all (T.all_bind.mp hd)
    obtain ⟨a, dx, C2, fv, rfl, hc, hx, rf⟩ := rx.insE
    have e3 := at_.one hc
    subst e3
    refine ⟨a, dx, fv, rfl, hx, rf.none_of nf, ha (I.ext e1) (T.all_mono (fun ds hd => ?_) (T.all_bind.mp hd))⟩
    intro vs H2 e2 r
    obtain ⟨hl, hd⟩ := cond_all hd
    exact meth_spec I.hn e2 (e1.trans e2) rx r (by simpa using hl) hd) (T.all_bind.mp h))⟩
theorem s_meth0 {k : Nat} {C f : Addr} {fd : FuncData} {ps : List Str} {c m : Str} {F : List D → T D} {o : Expr} {mo : Rho → T D} {apos : Pos} {pl : Sem Bool} (at_ : ClsAt X.K c C) (cl : Cls X.K C) (hm : Meth X.K C m f) (G : FnOk X.prog X.w X.K X.mg X.base CX0 k f fd ps (spD X.K X.prog X.w 1 F)) (hr : Room k X.A) (hb : Binds X.K fd ps [])
    (ho : Snd X o mo)
    (ht : eval (.Call (.Attribute o m apos) [] [] pos) X.env = (do
      let ov ← eval o X.env
      standAt apos.atName
      let (f, first) ← holding [ov] (getMethod ov m pl)
      callWith pos f first (backTo pos (starEach [] X.env)) (backToKw pos (keywordEach [] X.env))) := by rfl) :
    Snd X (.Call (.Attribute o m apos) [] [] pos) (eMeth c m 0 F mo aNil) := fun {π N0 H0 N H σ ρ Q} I h =>
  ⟨_, pe_meth0 (pl := pl) pe_wp cl hm G hr hb .nil pass0 ht, ho I (T.all_mono (fun d hd => by
    intro x H1 e1 rx
    obtain ⟨fs, rfl, nf, hd⟩ := insD_all (T.all_bind.mp hd)
    obtain ⟨a, dx, C2, fv, rfl, hc, hx, rf⟩ := rx.insE
    have e3 := at_.one hc
    subst e3
    exact ⟨a, dx, fv, rfl, hx, rf.none_of nf, meth_spec (n := 0) I.hn (Ex.refl e1.pot) e1 rx .nil rfl hd⟩) (T.all_bind.mp h))⟩
def isC (c : Str) (d : D) : T Unit := match d with
  | .ins c2 _ => cond (c2 == c) (.ret ()) .fail
  | _ => .fail
theorem isC_all {c : Str} {d : D} {P : Unit → Prop} (h : (isC c d).all P) : ∃ fs, d = .ins c fs ∧ P () := by
  unfold isC at h
  split at h
  · rename_i c2 fs
    obtain ⟨ec, h⟩ := cond_all h
    exact ⟨fs, by rw [eq_of_beq ec], h⟩
  · exact False.elim h
def eProp (c : Str) (F : List D → T D) (mo : Rho → T D) : Rho → T D := fun ρ => (mo ρ).bind fun d => (isC c d).bind fun _ => F [d]
theorem s_prop {k : Nat} {C p g : Addr} {fd : FuncData} {ps : List Str} {c f : Str} {F : List D → T D} (at_ : ClsAt X.K c C) (cl : Cls X.K C) (hp : PropOf X.K C f p g) (G : FnOk X.prog X.w X.K X.mg X.base CX0 k g fd ps (spD X.K X.prog X.w 1 F)) (hr : Room (k + 1) X.A) (hb : Binds X.K fd ps []) (ho : Snd X e m)
    (hab : attributeBase e f X.env (eval e X.env) = eval e X.env := by rfl) : Snd X (.Attribute e f pos) (eProp c F m) := fun {π N0 H0 N H σ ρ Q} I h =>
  ⟨_, pe_prop pe_wp cl hp G hr hb .nil pass0 hab, ho I (T.all_mono (fun d hd => by
    intro x H1 e1 rx
    obtain ⟨fs, rfl, hd⟩ := isC_all (T.all_bind.mp hd)
    obtain ⟨a, dx, C2, fv, rfl, hc, hx, rf⟩ := id rx.insE
    have e3 := at_.one hc
    subst e3
    exact ⟨a, dx, fv, rfl, hx, meth_spec (n := 0) (vs := []) I.hn (Ex.refl e1.pot) e1 rx .nil rfl hd⟩) (T.all_bind.mp h))⟩
end
end Pd

/-! Operators of the program's own classes. -/
namespace Pd
open PySem L2 PySem.Spec PyProof.Rows

structure OwnOp (K : PySem.W.Frag) (C : Addr) (op : Operator) (f : Addr) : Prop where
  first : PySem.W.selfFirst K C = true
  at_ : PySem.W.findIn K (.ref C) (PySem.dunder op.info.2) = some (some (.ref f))
  fn : PySem.W.isFn K (.ref f) = true
  back : ∃ rc, PySem.W.findIn K (.ref C) (PySem.dunderR op.info.2) = some rc ∧ (rc = none ∨ ∃ g : Addr, rc = some (.ref g))
  nums : ∃ fo ro, PySem.W.findIn K (.type "int") (PySem.dunder op.info.2) = some fo ∧ PySem.W.findIn K (.type "int") (PySem.dunderR op.info.2) = some ro
  sub : PySem.W.subIn K (.type "int") (.ref C) = some false
theorem back_of {Q : Value → Shared → Prop} {v : V} {u : Value} {s : Shared} (r : RelV v u) (h : Q u s) : PySem.W.CmpBack Q u s := by
  cases v with
  | non => cases r; exact h
  | bl b => cases r; exact h
  | int i => obtain ⟨t, rfl⟩ := r; exact h
  | str x => obtain ⟨t, rfl⟩ := r; exact h
  | byt b => obtain ⟨t, rfl⟩ := r; exact h
  | flt b => obtain ⟨t, rfl⟩ := r; exact h
  | ref a => cases r; exact h
  | ty n => cases r; exact h
section
variable {X : Cx} {a : Expr} {pos : Pos} {ma : Rho → T D}
theorem op_own {op : Operator} {k : Nat} {C f : Addr} {fd : FuncData} {ps : List Str} {F : List D → T D} (O : OwnOp X.K C op f) (G : FnOk X.prog X.w X.K X.mg X.base CX0 k f fd ps (spD X.K X.prog X.w 2 F)) (hr : Room k X.A) (hb : Binds X.K fd ps []) :
    OpR X (binaryOp op) (fun x y H Q => ∃ a dx fv, x = .ref a ∧ H a = some (.ins C dx fv) ∧ ((∃ i, y = .int i) ∨ ∃ b dx2 fw, y = .ref b ∧ H b = some (.ins C dx2 fw)) ∧ spD X.K X.prog X.w 2 F [x, y] H Q E0) := by
  intro pins s σ H x y v u Q I rx ry h
  obtain ⟨a, dx, fv, rfl, ha, hy, h⟩ := h
  cases rx
  obtain ⟨mA, M, _, _, _, _⟩ := ins_get I.hok ha
  obtain ⟨od, J, _⟩ := M.look
  obtain ⟨m, Fr0⟩ := I.fr
  have call1 := run_fn (dvs := []) (ds := []) G hr hb .nil pass0 I (vs := [.ref a, y]) (us := [.ref a, u]) (.cons rfl (.cons ry .nil)) h
  have call2 := wpAny_mono call1 (fun r s2 hs => by
    obtain ⟨v2, H2, I2, rv, q⟩ := hs
    exact back_of (Q := EP X pins σ Q) rv ⟨v2, H2, I2, rv, q⟩) fun _ _ z => z
  rcases hy with ⟨i, rfl⟩ | ⟨b, dx2, fw, rfl, hb2⟩
  · obtain ⟨t, rfl⟩ := ry
    obtain ⟨rc, r1, r2⟩ := O.back
    obtain ⟨fo, ro, i1, i2⟩ := O.nums
    exact PySem.W.ksp_binT (T := "int") Fr0 I.ok.mod.kin J rfl O.first O.at_ O.fn r1 r2 i1 i2 O.sub call2
  · cases ry
    obtain ⟨mB, M2, _, _, _, _⟩ := ins_get I.hok hb2
    obtain ⟨od2, J2, _⟩ := M2.look
    exact PySem.W.binop_K Fr0 I.ok.mod.kin J J2.type O.first O.at_ O.fn call2
def right2 (c : Str) (F : List D → T D) (x : D) : D → T D
  | .int i => F [x, .int i]
  | y => (isC c y).bind fun _ => F [x, y]
theorem right2_all {c : Str} {F : List D → T D} {x y : D} {P : D → Prop} (h : (right2 c F x y).all P) : ((∃ i, y = .int i) ∨ ∃ gs, y = .ins c gs) ∧ (F [x, y]).all P := by
  cases y with
  | int i => exact ⟨.inl ⟨i, rfl⟩, h⟩
  | ins c2 gs =>
    obtain ⟨gs2, e, h⟩ := isC_all (T.all_bind.mp (show ((isC c (.ins c2 gs)).bind fun _ => F [x, .ins c2 gs]).all P from h))
    exact ⟨.inr ⟨gs2, e⟩, h⟩
  | _ => exact False.elim h
def opOwn (c : Str) (F : List D → T D) : D → D → T D := fun x y => (isC c x).bind fun _ => right2 c F x y
theorem os_own {op : Operator} {k : Nat} {c : Str} {C f : Addr} {fd : FuncData} {ps : List Str} {F : List D → T D} (at_ : ClsAt X.K c C) (O : OwnOp X.K C op f) (G : FnOk X.prog X.w X.K X.mg X.base CX0 k f fd ps (spD X.K X.prog X.w 2 F)) (hr : Room k X.A) (hb : Binds X.K fd ps []) : OpSnd X (binaryOp op) (opOwn c F) := fun {π N H x y dx dy Q} hn rx ry h => by
  unfold opOwn at h
  obtain ⟨fs, rfl, h⟩ := isC_all (T.all_bind.mp h)
  obtain ⟨a, d1, C2, fv, rfl, hc, hx, rf⟩ := id rx.insE
  have e3 := at_.one hc
  subst e3
  refine ⟨_, op_own O G hr hb, a, d1, fv, rfl, hx, ?_⟩
  obtain ⟨hy, h⟩ := right2_all h
  refine ⟨?_, π, N, _, hn, .cons rx (.cons ry .nil), rfl, h⟩
  rcases hy with ⟨i, rfl⟩ | ⟨gs, rfl⟩
  · exact .inl ⟨i, ry.intE⟩
  · obtain ⟨b, d2, C3, fw, rfl, hc3, hy, _⟩ := id ry.insE
    have e4 := at_.one hc3
    subst e4
    exact .inr ⟨b, d2, fw, rfl, hy⟩
/-! -x -/
theorem un_own {k : Nat} {C f : Addr} {fd : FuncData} {ps : List Str} {F : List D → T D} (hs : PySem.W.findIn X.K (.ref C) "__neg__" = some (some (.ref f))) (hf : PySem.W.isFn X.K (.ref f) = true) (G : FnOk X.prog X.w X.K X.mg X.base CX0 k f fd ps (spD X.K X.prog X.w 1 F)) (hr : Room k X.A) (hb : Binds X.K fd ps []) :
    UnR X (unaryOp .USub) (fun x H Q => ∃ a dx fv, x = .ref a ∧ H a = some (.ins C dx fv) ∧ spD X.K X.prog X.w 1 F [x] H Q E0) := by
  intro pins s σ H x v Q I rx h
  obtain ⟨a, dx, fv, rfl, ha, h⟩ := h
  cases rx
  obtain ⟨mA, M, _, _, _, _⟩ := ins_get I.hok ha
  obtain ⟨od, J, _⟩ := M.look
  obtain ⟨m, Fr0⟩ := I.fr
  exact PySem.W.ksp_neg Fr0 I.ok.mod.kin J hs hf (run_fn (dvs := []) (ds := []) G hr hb .nil pass0 I (vs := [.ref a]) (us := [.ref a]) (.cons rfl .nil) h)
def uNegC (c : Str) (F : List D → T D) : D → T D := fun d => match d with
  | .int i => .ret (.int (-i))
  | d => (isC c d).bind fun _ => F [d]
theorem s_negC {k : Nat} {c : Str} {C f : Addr} {fd : FuncData} {ps : List Str} {F : List D → T D} (at_ : ClsAt X.K c C) (hs : PySem.W.findIn X.K (.ref C) "__neg__" = some (some (.ref f))) (hf : PySem.W.isFn X.K (.ref f) = true) (G : FnOk X.prog X.w X.K X.mg X.base CX0 k f fd ps (spD X.K X.prog X.w 1 F)) (hr : Room k X.A) (hb : Binds X.K fd ps [])
    (ha : Snd X a ma) : Snd X (.UnaryOp .USub a pos) (eUn (uNegC c F) ma) := fun {π N0 H0 N H σ ρ Q} I h =>
  ⟨_, pe_un un_wp pe_wp, ha I (T.all_mono (fun d hd => by
    intro v H2 e2 r
    unfold uNegC at hd
    split at hd
    · cases r
      exact ⟨_, un_neg, _, rfl, hd _ _ e2 (.int _)⟩
    · obtain ⟨fs, rfl, hd⟩ := isC_all (T.all_bind.mp hd)
      obtain ⟨a, dx, C2, fv, rfl, hc, hx, rf⟩ := id r.insE
      have e3 := at_.one hc
      subst e3
      refine ⟨_, un_own hs hf G hr hb, a, dx, fv, rfl, hx, π, N, _, I.hn.ext e2, .cons r .nil, rfl, T.all_mono (fun _ q v H3 e3 r3 => q v H3 (e2.trans e3) r3) hd⟩) (T.all_bind.mp h))⟩
end
end Pd

/-! int op instance: the class's reflected method. -/
namespace Pd
open PySem L2 PySem.Spec PyProof.Rows PySem.W

theorem back_try {prog : Program} {w : World} {A : Around} {E : Value → Shared → Prop} {s : Shared} {K : PySem.W.Frag} {x C f0 f : Addr} {ox : Obj} {od : Option Obj} {nm id : String} {i : Int} {t : Tok} {fo ro : Option Value} {Q : Option Value → Shared → Prop}
    (X : K.In s.heap) (I : InstAt s.heap x ox C od) (hc : selfFirst K C = true) (h0 : findIn K (.ref C) (PySem.dunder nm) = some (some (.ref f0))) (hs : findIn K (.ref C) (dunderR nm) = some (some (.ref f))) (hf : isFn K (.ref f) = true)
    (h1 : findIn K (.type "int") (PySem.dunder nm) = some fo) (h2 : findIn K (.type "int") (dunderR nm) = some ro) (hleft : ((fo.isSome && !isSeqSlot fo) || (ro.isSome && !isSeqSlot ro)) = true) (hsub : subIn K (.ref C) (.type "int") = some false)
    (hsl : Slot "int" (PySem.dunder nm) id) (hdec : wpAny (model prog w) A (call (.builtin id) [.int i t, .ref x]) (fun v s' => v = .notImplemented ∧ s' = s) E s)
    (h : wpAny (model prog w) A (call (.ref f) [.ref x, .int i t]) (PySem.W.CmpBack fun v s' => Q (some v) s') E s) : wpAny (model prog w) A (binaryOp1 nm (.int i t) (.ref x)) Q E s := by
  obtain ⟨cd, rest, hcd, hm⟩ := ksp_first hc
  have two := ksp_try (Q := fun v s' => Q (some v) s') X I hs hf h
  have one : wpAny (model prog w) A (tryMethod (.int i t) (PySem.dunder nm) (.ref x)) (fun r s' => r = none ∧ s' = s) E s := wpAny_tryMethod_declines (typeIs_int s i t) hsl (wpAny_mono hdec (fun v s' z => ⟨z.1, rfl, z.2⟩) fun _ _ z => z)
  have L2 : Looks (model prog w) s.heap (typeOf (.ref x)) (.ref C) := I.type
  have L3 : Looks (model prog w) s.heap (fillsNumberSlot (.ref C) nm) true := fills_K X hcd hm h0
  have L4 := ksp_fillsT (M := model prog w) X h1 h2
  rw [hleft] at L4
  have L5 : Looks (model prog w) s.heap (isSubtype (.ref C) (.type "int")) false := looks_subIn X hsub
  have hne : (Value.type "int" == Value.ref C) = false := Bool.eq_false_iff.mpr fun q => by cases beq_iff_eq.mp q
  unfold binaryOp1
  refine wpAny_bind (wpAny_pure ?_)
  refine wpAny_bind (L2.here (wpAny_bind (L4.here ?_)))
  simp only [hne, Bool.false_eq_true, if_false]
  refine wpAny_bind (L3.here ?_)
  simp only [Bool.and_self, if_true]
  refine wpAny_bind (L5.here ?_)
  simp only [Bool.false_eq_true, if_false, Bool.not_false, Bool.and_self, if_true]
  refine wpAny_bind (m := numberSlotInPython (.type "int") nm) (wpAny_pure ?_)
  simp only [Bool.false_eq_true, if_false]
  refine wpAny_bind (wpAny_mono one (fun r s2 hr => ?_) fun _ _ z => z)
  obtain ⟨rfl, rfl⟩ := hr
  dsimp only
  refine wpAny_bind (wpAny_mono two (fun r s3 hr => ?_) fun _ _ z => z)
  obtain ⟨v, rfl, hq⟩ := hr
  dsimp only
  exact wpAny_bind (wpAny_rule (wpAny_pure hq))
theorem dec_add (i : Int) (t : Tok) (x : Addr) (C dx : Addr) : Meets (Builtin.«int.__add__» ⟨[.int i t, .ref x], []⟩) (fun _ R s => s.heap.get? x = some (instObj C dx) ∧ R (.ok (.ret Value.notImplemented)) s) :=
  .of_wp fun prog w A R s h => by obtain ⟨hp, g, d, tk, os⟩ := s; obtain ⟨hl, h⟩ := h; unfold instObj at hl; wp_walk using wpAny_loadPart' hl; exact ⟨_, rfl, h⟩
theorem dec_sub (i : Int) (t : Tok) (x : Addr) (C dx : Addr) : Meets (Builtin.«int.__sub__» ⟨[.int i t, .ref x], []⟩) (fun _ R s => s.heap.get? x = some (instObj C dx) ∧ R (.ok (.ret Value.notImplemented)) s) :=
  .of_wp fun prog w A R s h => by obtain ⟨hp, g, d, tk, os⟩ := s; obtain ⟨hl, h⟩ := h; unfold instObj at hl; wp_walk using wpAny_loadPart' hl; exact ⟨_, rfl, h⟩
theorem dec_mul (i : Int) (t : Tok) (x : Addr) (C dx : Addr) : Meets (Builtin.«int.__mul__» ⟨[.int i t, .ref x], []⟩) (fun _ R s => s.heap.get? x = some (instObj C dx) ∧ R (.ok (.ret Value.notImplemented)) s) :=
  .of_wp fun prog w A R s h => by obtain ⟨hp, g, d, tk, os⟩ := s; obtain ⟨hl, h⟩ := h; unfold instObj at hl; wp_walk using wpAny_loadPart' hl; exact ⟨_, rfl, h⟩
/-- int op instance -/
structure BackOp (K : PySem.W.Frag) (C : Addr) (op : Operator) (f : Addr) : Prop where
  first : selfFirst K C = true
  own : ∃ f0 : Addr, findIn K (.ref C) (PySem.dunder op.info.2) = some (some (.ref f0))
  at_ : findIn K (.ref C) (dunderR op.info.2) = some (some (.ref f))
  fn : isFn K (.ref f) = true
  nums : ∃ fo ro, findIn K (.type "int") (PySem.dunder op.info.2) = some fo ∧ findIn K (.type "int") (dunderR op.info.2) = some ro ∧ ((fo.isSome && !isSeqSlot fo) || (ro.isSome && !isSeqSlot ro)) = true
  sub : subIn K (.ref C) (.type "int") = some false
/-- what int's own slot says to an instance -/
def Declines (op : Operator) : Prop := ∃ id, Slot "int" (PySem.dunder op.info.2) id ∧ ∀ (prog : Program) (w : World) (A : Around) (E : Value → Shared → Prop) (s : Shared) (i : Int) (t : Tok) (x C dx : Addr), s.heap.get? x = some (instObj C dx) → wpAny (model prog w) A (call (.builtin id) [.int i t, .ref x]) (fun v s' => v = .notImplemented ∧ s' = s) E s
theorem declines_add : Declines .Add := ⟨_, F.slot_int_add, fun prog w A E s i t x C dx h => call_meets F.slot_int_add (typeIs_int s i t) F.entry_int_add (F.args_int_add_2 _ _) (dec_add i t x C dx) ⟨h, rfl, rfl⟩⟩
theorem declines_sub : Declines .Sub := ⟨_, F.slot_int_sub, fun prog w A E s i t x C dx h => call_meets F.slot_int_sub (typeIs_int s i t) F.entry_int_sub (F.args_int_sub_2 _ _) (dec_sub i t x C dx) ⟨h, rfl, rfl⟩⟩
theorem declines_mul : Declines .Mult := ⟨_, F.slot_int_mul, fun prog w A E s i t x C dx h => call_meets F.slot_int_mul (typeIs_int s i t) F.entry_int_mul (F.args_int_mul_2 _ _) (dec_mul i t x C dx) ⟨h, rfl, rfl⟩⟩
section
variable {X : Cx}
theorem op_back {op : Operator} {k : Nat} {C f : Addr} {fd : FuncData} {ps : List Str} {F : List D → T D} (B : BackOp X.K C op f) (dc : Declines op) (G : FnOk X.prog X.w X.K X.mg X.base CX0 k f fd ps (spD X.K X.prog X.w 2 F)) (hr : Room k X.A) (hb : Binds X.K fd ps []) :
    OpR X (binaryOp op) (fun x y H Q => ∃ i a dx fv, x = .int i ∧ y = .ref a ∧ H a = some (.ins C dx fv) ∧ spD X.K X.prog X.w 2 F [y, x] H Q E0) := by
  intro pins s σ H x y v u Q I rx ry h
  obtain ⟨i, a, dx, fv, rfl, rfl, ha, h⟩ := h
  cases ry
  have rx0 := rx
  obtain ⟨t, rfl⟩ := rx
  obtain ⟨mA, M, _, _, _, _⟩ := ins_get I.hok ha
  obtain ⟨od, J, _⟩ := M.look
  have call1 := run_fn (dvs := []) (ds := []) G hr hb .nil pass0 I (vs := [.ref a, .int i]) (us := [.ref a, .int i t]) (.cons rfl (.cons rx0 .nil)) h
  have call2 := wpAny_mono call1 (fun r s2 hs => by
    obtain ⟨v2, H2, I2, rv, q⟩ := hs
    exact back_of (Q := EP X pins σ Q) rv ⟨v2, H2, I2, rv, q⟩) fun _ _ z => z
  obtain ⟨f0, own⟩ := B.own
  obtain ⟨fo, ro, i1, i2, i3⟩ := B.nums
  obtain ⟨id, hsl, hdec⟩ := dc
  have one := back_try (Q := fun r s2 => ∃ v, r = some v ∧ EP X pins σ Q v s2) I.kIn J B.first own B.at_ B.fn i1 i2 i3 B.sub hsl (hdec X.prog X.w X.A X.xe s i t a C dx M.obj) (wpAny_mono call2 (fun v s2 hv => by
    cases v <;> first | exact hv.elim | exact ⟨_, rfl, hv⟩) fun _ _ z => z)
  unfold binaryOp
  refine wpAny_holding (wpAny_bind (wpAny_mono one (fun r s2 hr => ?_) fun _ _ z => z))
  obtain ⟨v, rfl, hq⟩ := hr
  exact wpAny_pure hq
/-- an operator of ints and of instances on either side -/
def opAny (c : Str) (f : D → D → T D) (F R : List D → T D) : D → D → T D
  | .int i, .ins c2 gs => (isC c (.ins c2 gs)).bind fun _ => R [.ins c2 gs, .int i]
  | .ins c2 fs, y => opOwn c F (.ins c2 fs) y
  | x, y => f x y
theorem os_any {op : Operator} {k j : Nat} {c : Str} {C f r : Addr} {fd rd : FuncData} {ps qs : List Str} {g : D → D → T D} {F R : List D → T D} (h0 : OpSnd X (binaryOp op) g) (at_ : ClsAt X.K c C) (O : OwnOp X.K C op f) (G : FnOk X.prog X.w X.K X.mg X.base CX0 k f fd ps (spD X.K X.prog X.w 2 F)) (hr : Room k X.A) (hb : Binds X.K fd ps [])
    (B : BackOp X.K C op r) (dc : Declines op) (GR : FnOk X.prog X.w X.K X.mg X.base CX0 j r rd qs (spD X.K X.prog X.w 2 R)) (hr2 : Room j X.A) (hb2 : Binds X.K rd qs []) : OpSnd X (binaryOp op) (opAny c g F R) := fun {π N H x y dx dy Q} hn rx ry h => by
  unfold opAny at h
  split at h
  · rename_i i c2 gs
    obtain ⟨fs, e, h⟩ := isC_all (T.all_bind.mp h)
    cases e
    obtain ⟨b, d2, C3, fw, rfl, hc3, hy, _⟩ := id ry.insE
    have e4 := at_.one hc3
    subst e4
    have ex := rx.intE
    subst ex
    exact ⟨_, op_back B dc GR hr2 hb2, i, b, d2, fw, rfl, rfl, hy, π, N, _, hn, .cons ry (.cons rx .nil), rfl, h⟩
  · exact os_own at_ O G hr hb hn rx ry h
  · exact h0 hn rx ry h
end
end Pd

/-! isinstance with instances about. -/
namespace Pd
open PySem L2 PySem.Spec PyProof.Rows

/-- the class is one whose instances isinstance may be asked of -/
structure ClsTy (K : PySem.W.Frag) (C : Addr) : Prop where
  ty : ∀ (H : Hp) (a dx : Addr) (fs : List (Str × V)), H a = some (.ins C dx fs) → TyOf K H (.ref a) (.ref C)
  no : ∀ t : Ty5, PySem.W.kitOne K (.ref C) (.type t.nm) = some false
  is : ∀ t : Ty5, PySem.W.kitOne K (.type t.nm) (.ref C) = some false
def KnownC (K : PySem.W.Frag) (cs : List Str) : Prop := ∀ c, cs.contains c = true → ∃ C, ClsAt K c C ∧ ClsTy K C
/-- isinstance(d, a built-in type) -/
def isDC (cs : List Str) (k : Ty5) (d : D) : T D := match d with
  | .ins c _ => cond (cs.contains c) (.ret (.bl false)) .fail
  | d => isD k d
/-- isinstance(d, the class of that name) -/
def isOC (cs : List Str) (c0 : Str) (d : D) : T D := match d with
  | .ins c _ => cond (c == c0) (.ret (.bl true)) (cond (cs.contains c) (.ret (.bl false)) .fail)
  | d => (optT (tyD d)).bind fun _ => .ret (.bl false)
section
variable {X : Cx} {pos : Pos} {e : Expr} {m : Rho → T D}
theorem isi_ins {π : Addr} {N : Addr → Bool} {H : Hp} {v : V} {c : Str} {fs : List (Str × D)} {cs : List Str} (kn : KnownC X.K cs) (hc : cs.contains c = true) (r : Rv X.K X.prog X.w π (Hide N H) v (.ins c fs)) : ∃ C, ClsAt X.K c C ∧ ClsTy X.K C ∧ TyX X.K H v (.ref C) := by
  obtain ⟨C, at_, ct⟩ := kn c hc
  obtain ⟨a, dx, C2, fv, rfl, h2, hx, _⟩ := r.insE
  have e3 := at_.one h2
  subst e3
  exact ⟨C2, at_, ct, .base (ct.ty H a dx fv hx)⟩
theorem isD_all {k : Ty5} {d : D} {P : D → Prop} (h : (isD k d).all P) : ∃ t, tyD d = some t ∧ P (.bl (Ty5.sub t k)) := by
  unfold isD at h
  split at h
  · exact ⟨_, by assumption, h⟩
  · exact False.elim h
theorem s_isinstC (cs : List Str) {k : Ty5} {ty : Str} {p p2 : Pos} (kn : KnownC X.K cs) (hm : X.mg "isinstance" = none) (hmt : X.mg ty = none) (hb : bootBuiltins ty = some (.type k.nm)) (ha : Snd X e m) (hg : Gl X "isinstance" := by rfl) (hgt : Gl X ty := by rfl) (hbi : bootBuiltins "isinstance" = some (.builtin "isinstance") := by decide +kernel) (hn : ty ≠ "__name__" := by decide) (hd : (ty == ("__debug__" : Str)) = false := by decide)
    (he : starEach [e, .Name ty p] X.env = (false, eval e X.env) :: starEach [.Name ty p] X.env := by rfl) (he2 : starEach [.Name ty p] X.env = (false, eval (.Name ty p) X.env) :: starEach [] X.env := by rfl) (hpl : (backTo pos (starEach [.Name ty p] X.env)).any (·.1) = false := by rfl) :
    Snd X (.Call (.Name "isinstance" p2) [e, .Name ty p] [] pos) (eUn (isDC cs k) m) := fun {π N0 H0 N H σ ρ Q} I h =>
  ⟨_, pe_callB call_isi hg hm hbi (pa_cons pe_wp (pa_cons (pe_bltn (v := .ty k.nm) hgt hmt hb rfl hn hd) pa_nil he2) he) (by decide) (by decide) he hpl, ha I (T.all_mono (fun d hd => by
    intro v H2 e2 r
    unfold isDC at hd
    split at hd
    · obtain ⟨hc, hd⟩ := cond_all hd
      obtain ⟨C, at_, ct, tx⟩ := isi_ins kn hc r
      exact ⟨v, .ty k.nm, .ref C, .type k.nm, false, rfl, .ty _, tx, ct.no k, hd _ _ e2 (.bl _)⟩
    · obtain ⟨t, c, hd⟩ := isD_all hd
      exact ⟨v, .ty k.nm, .type t.nm, .type k.nm, Ty5.sub t k, rfl, .ty _, ty_of r c, kit_ty (kitB_sub t k), hd _ _ e2 (.bl _)⟩) (T.all_bind.mp h))⟩
theorem s_isinstO (cs : List Str) {c0 : Str} {C0 : Addr} {p p2 : Pos} (kn : KnownC X.K cs) (at0 : ClsAt X.K c0 C0) (ct0 : ClsTy X.K C0) (df : ∀ c C, cs.contains c = true → (c == c0) = false → ClsAt X.K c C → PySem.W.kitOne X.K (.ref C) (.ref C0) = some false) (hm : X.mg "isinstance" = none) (hmt : X.mg c0 = some (.ref C0)) (ha : Snd X e m) (hg : Gl X "isinstance" := by rfl) (hgt : Gl X c0 := by rfl)
    (hbi : bootBuiltins "isinstance" = some (.builtin "isinstance") := by decide +kernel) (hd : (c0 == ("__debug__" : Str)) = false := by decide)
    (he : starEach [e, .Name c0 p] X.env = (false, eval e X.env) :: starEach [.Name c0 p] X.env := by rfl) (he2 : starEach [.Name c0 p] X.env = (false, eval (.Name c0 p) X.env) :: starEach [] X.env := by rfl) (hpl : (backTo pos (starEach [.Name c0 p] X.env)).any (·.1) = false := by rfl) :
    Snd X (.Call (.Name "isinstance" p2) [e, .Name c0 p] [] pos) (eUn (isOC cs c0) m) := fun {π N0 H0 N H σ ρ Q} I h =>
  ⟨_, pe_callB call_isi hg hm hbi (pa_cons pe_wp (pa_cons (pe_glob hgt hmt (v := .ref C0) rfl hd) pa_nil he2) he) (by decide) (by decide) he hpl, ha I (T.all_mono (fun d hz => by
    intro v H2 e2 r
    unfold isOC at hz
    split at hz
    · rename_i c fs
      cases q : (c == c0) with
      | true =>
        rw [q] at hz
        have ec := eq_of_beq q
        subst ec
        obtain ⟨a, dx, C2, fv, rfl, h2, hx, _⟩ := r.insE
        have e3 := at0.one h2
        subst e3
        refine ⟨.ref a, .ref C2, .ref C2, .ref C2, true, rfl, .own _, .base (ct0.ty _ a dx fv hx), ?_, hz _ _ e2 (.bl _)⟩
        unfold PySem.W.kitOne
        rw [if_pos (beq_self_eq_true _)]
      | false =>
        rw [q] at hz
        obtain ⟨hc, hz⟩ := cond_all (show (cond (cs.contains c) (T.ret (D.bl false)) .fail).all _ from hz)
        obtain ⟨C, at_, ct, tx⟩ := isi_ins kn hc r
        exact ⟨v, .ref C0, .ref C, .ref C0, false, rfl, .own _, tx, df c C hc q at_, hz _ _ e2 (.bl _)⟩
    · obtain ⟨t, c, hz⟩ := optT_all (T.all_bind.mp hz)
      exact ⟨v, .ref C0, .type t.nm, .ref C0, false, rfl, .own _, ty_of r c, ct0.is t, hz _ _ e2 (.bl _)⟩) (T.all_bind.mp h))⟩
end
end Pd

/-! Comparisons by a class's own method. -/
namespace Pd
open PySem L2 PySem.Spec PyProof.Rows

structure CmpOwn (K : PySem.W.Frag) (C : Addr) (op : CmpOp) (f : Addr) : Prop where
  at_ : PySem.W.findIn K (.ref C) (cmpInfo op).2.1 = some (some (.ref f))
  fn : PySem.W.isFn K (.ref f) = true
  num : PySem.W.notFirst K C (.type "int") = true
  self : PySem.W.notFirst K C (.ref C) = true
section
variable {X : Cx}
theorem op_cmpOwn {op : CmpOp} {k : Nat} {C f : Addr} {fd : FuncData} {ps : List Str} {F : List D → T D} (hop : op ≠ .Is ∧ op ≠ .IsNot ∧ op ≠ .In ∧ op ≠ .NotIn) (O : CmpOwn X.K C op f) (G : FnOk X.prog X.w X.K X.mg X.base CX0 k f fd ps (spD X.K X.prog X.w 2 F)) (hr : Room k X.A) (hb : Binds X.K fd ps []) :
    OpR X (compareOp op) (fun x y H Q => ∃ a dx fv, x = .ref a ∧ H a = some (.ins C dx fv) ∧ ((∃ i, y = .int i) ∨ ∃ b dx2 fw, y = .ref b ∧ H b = some (.ins C dx2 fw)) ∧ spD X.K X.prog X.w 2 F [x, y] H Q E0) := by
  intro pins s σ H x y v u Q I rx ry h
  obtain ⟨a, dx, fv, rfl, ha, hy, h⟩ := h
  cases rx
  obtain ⟨mA, M, _, _, _, _⟩ := ins_get I.hok ha
  obtain ⟨od, J, _⟩ := M.look
  obtain ⟨m, Fr0⟩ := I.fr
  have hu : X.A.units < cLine := by have := hr.un; omega
  have call1 := run_fn (dvs := []) (ds := []) G hr hb .nil pass0 I (vs := [.ref a, y]) (us := [.ref a, u]) (.cons rfl (.cons ry .nil)) h
  have call2 := wpAny_mono call1 (fun r s2 hs => by
    obtain ⟨v2, H2, I2, rv, q⟩ := hs
    exact back_of (Q := EP X pins σ Q) rv ⟨v2, H2, I2, rv, q⟩) fun _ _ z => z
  have rich : ∀ (tb : Value), PySem.W.Looks (model X.prog X.w) s.heap (typeOf u) tb → PySem.W.notFirst X.K C tb = true → wpAny (model X.prog X.w) X.A (compareOp op (.ref a) u) (EP X pins σ Q) X.xe s := fun tb hl hn => by
    have z := PySem.W.cmp_K hu Fr0 I.ok.mod.kin J hl hn O.at_ O.fn call2
    cases op with
    | Is => exact absurd rfl hop.1
    | IsNot => exact absurd rfl hop.2.1
    | In => exact absurd rfl hop.2.2.1
    | NotIn => exact absurd rfl hop.2.2.2
    | _ => exact z
  rcases hy with ⟨i, rfl⟩ | ⟨b, dx2, fw, rfl, hb2⟩
  · obtain ⟨t, rfl⟩ := ry
    exact rich (.type "int") (PySem.W.Looks.of_pure rfl) O.num
  · cases ry
    obtain ⟨mB, M2, _, _, _, _⟩ := ins_get I.hok hb2
    obtain ⟨od2, J2, _⟩ := M2.look
    exact rich (.ref C) J2.type O.self
theorem os_cmpOwn {op : CmpOp} {k : Nat} {c : Str} {C f : Addr} {fd : FuncData} {ps : List Str} {F : List D → T D} (hop : op ≠ .Is ∧ op ≠ .IsNot ∧ op ≠ .In ∧ op ≠ .NotIn) (at_ : ClsAt X.K c C) (O : CmpOwn X.K C op f) (G : FnOk X.prog X.w X.K X.mg X.base CX0 k f fd ps (spD X.K X.prog X.w 2 F)) (hr : Room k X.A) (hb : Binds X.K fd ps []) : OpSnd X (compareOp op) (opOwn c F) := fun {π N H x y dx dy Q} hn rx ry h => by
  unfold opOwn at h
  obtain ⟨fs, rfl, h⟩ := isC_all (T.all_bind.mp h)
  obtain ⟨a, d1, C2, fv, rfl, hc, hx, rf⟩ := id rx.insE
  have e3 := at_.one hc
  subst e3
  refine ⟨_, op_cmpOwn hop O G hr hb, a, d1, fv, rfl, hx, ?_⟩
  obtain ⟨hy, h⟩ := right2_all h
  refine ⟨?_, π, N, _, hn, .cons rx (.cons ry .nil), rfl, h⟩
  rcases hy with ⟨i, rfl⟩ | ⟨gs, rfl⟩
  · exact .inl ⟨i, ry.intE⟩
  · obtain ⟨b, d2, C3, fw, rfl, hc3, hy, _⟩ := id ry.insE
    have e4 := at_.one hc3
    subst e4
    exact .inr ⟨b, d2, fw, rfl, hy⟩
/-- an own comparison, or that of plain data -/
def cmpAny (c : Str) (f : D → D → T D) (F : List D → T D) : D → D → T D
  | .ins c2 fs, y => opOwn c F (.ins c2 fs) y
  | x, y => f x y
theorem os_cmpAny {op : CmpOp} {k : Nat} {c : Str} {C f : Addr} {fd : FuncData} {ps : List Str} {g : D → D → T D} {F : List D → T D} (h0 : OpSnd X (compareOp op) g) (hop : op ≠ .Is ∧ op ≠ .IsNot ∧ op ≠ .In ∧ op ≠ .NotIn) (at_ : ClsAt X.K c C) (O : CmpOwn X.K C op f) (G : FnOk X.prog X.w X.K X.mg X.base CX0 k f fd ps (spD X.K X.prog X.w 2 F)) (hr : Room k X.A) (hb : Binds X.K fd ps []) : OpSnd X (compareOp op) (cmpAny c g F) := fun {π N H x y dx dy Q} hn rx ry h => by
  unfold cmpAny at h
  split at h
  · exact os_cmpOwn hop at_ O G hr hb hn rx ry h
  · exact h0 hn rx ry h
end
end Pd

/-! Whole numbers of any size, texts of numbers, f-strings, identity of bools and None. -/
namespace Pd
open PySem L2 PySem.Spec PyProof.Rows

def bitsOk (i : Int) : Bool := decide (Builtin.Int.intBits i ≤ 2 ^ 20)
/-- products of numbers of up to 2 ** 20 bits -/
def opMulG : D → D → T D
  | .int i, .int j => cond (bitsOk i && bitsOk j) (.ret (.int (i * j))) .fail
  | x, y => opMulT x y
def opFDivG : D → D → T D
  | .int i, .int j => cond (decide (j ≠ 0) && !Builtin.divisionGoesByPylong i j) (.ret (.int (i.fdiv j))) .fail
  | _, _ => .fail
def opModG : D → D → T D
  | .int i, .int j => cond (decide (j ≠ 0)) (.ret (.int (i.fmod j))) .fail
  | _, _ => .fail
section
variable {X : Cx} {e a b : Expr} {pos : Pos} {m ma mb : Rho → T D}
theorem op_mulG : OpR X (binaryOp .Mult) (rI IntMulOk fun i j => .int (i * j)) := L2.opI fun _ _ _ _ _ _ _ hc q => mul_int q hc
theorem os_mulG : OpSnd X (binaryOp .Mult) opMulG := fun {π N H x y dx dy Q} hn rx ry h => by
  unfold opMulG at h
  split at h
  · obtain ⟨hb, h⟩ := cond_all h
    unfold bitsOk at hb
    simp only [Bool.and_eq_true, decide_eq_true_eq] at hb
    cases rx; cases ry
    exact ⟨_, op_mulG, _, _, rfl, rfl, IntMulOk.of_bits hb.1 hb.2, h _ _ (Ex.refl hn.pot) (.int _)⟩
  · exact os_mulT hn rx ry h
theorem op_fdG : OpR X (binaryOp .FloorDiv) (rI (fun i j => j ≠ 0 ∧ Builtin.divisionGoesByPylong i j = false) fun i j => .int (i.fdiv j)) := L2.opI fun _ _ _ _ _ _ _ hc q => floordiv_int hc.1 q (.inl hc.2)
theorem os_fdivG : OpSnd X (binaryOp .FloorDiv) opFDivG := fun {π N H x y dx dy Q} hn rx ry h => by
  unfold opFDivG at h
  split at h
  · obtain ⟨hb, h⟩ := cond_all h
    simp only [Bool.and_eq_true, decide_eq_true_eq, Bool.not_eq_true'] at hb
    cases rx; cases ry
    exact ⟨_, op_fdG, _, _, rfl, rfl, hb, h _ _ (Ex.refl hn.pot) (.int _)⟩
  · exact False.elim h
theorem os_modG : OpSnd X (binaryOp .Mod) opModG := fun {π N H x y dx dy Q} hn rx ry h => by
  unfold opModG at h
  split at h
  · obtain ⟨hb, h⟩ := cond_all h
    cases rx; cases ry
    exact ⟨_, op_modN, _, _, rfl, rfl, of_decide_eq_true hb, h _ _ (Ex.refl hn.pot) (.int _)⟩
  · exact False.elim h
/-! str(..) of whole numbers and texts -/
def strD : D → Option Str
  | .int i => cond (decide (i.natAbs.log2 < 1920)) (some (toString i)) none
  | .str x => cond (decide (x.length ≤ 100000)) (some x) none
  | _ => none
def bStr : List D → T D
  | [d] => (optT (strD d)).bind fun x => .ret (.str x)
  | _ => .fail
theorem strD_some {d : D} {x : Str} (h : strD d = some x) : (∃ i : Int, d = .int i ∧ i.natAbs.log2 < 1920 ∧ x = toString i) ∨ (d = .str x ∧ x.length ≤ sizeLine) := by
  unfold strD at h
  split at h
  · rename_i i
    cases c : decide (i.natAbs.log2 < 1920) with
    | true => rw [c] at h; cases h; exact .inl ⟨i, rfl, of_decide_eq_true c, rfl⟩
    | false => rw [c] at h; cases h
  · rename_i y
    cases c : decide (y.length ≤ 100000) with
    | true => rw [c] at h; cases h; exact .inr ⟨rfl, Nat.le_trans (of_decide_eq_true c) (by decide)⟩
    | false => rw [c] at h; cases h
  · cases h
theorem cs_str : CaSnd X (.type "str") bStr := fun {π N H xs ds Q} hn r h => by
  unfold bStr at h
  split at h
  · obtain ⟨x, eq1, g1⟩ := optT_all (T.all_bind.mp h)
    cases r with
    | cons r t =>
    cases t
    rcases strD_some eq1 with ⟨i, rfl, hi, rfl⟩ | ⟨rfl, hx⟩
    · cases r
      exact ⟨_, call_str_int, i, rfl, hi, g1 _ _ (Ex.refl hn.pot) (.str _)⟩
    · cases r
      exact ⟨_, SkE.call_str_str, x, rfl, g1 _ _ (Ex.refl hn.pot) (.str _)⟩
  · exact False.elim h
/-! f'..{x}..' -/
def eFmt (m : Rho → T D) : Rho → T D := fun ρ => (m ρ).bind fun d => (optT (strD d)).bind fun x => .ret (.str x)
theorem s_fmt (ha : Snd X e m) : Snd X (.FormattedValue e (-1) none pos) (eFmt m) := fun {π N0 H0 N H σ ρ Q} I h =>
  ⟨_, pe_fmt pe_wp, ha I (T.all_mono (fun d hd => by
    intro v H2 e2 r
    obtain ⟨x, eq1, g1⟩ := optT_all (T.all_bind.mp hd)
    rcases strD_some eq1 with ⟨i, rfl, hi, rfl⟩ | ⟨rfl, hx⟩
    · cases r
      exact .inr ⟨i, rfl, hi, g1 _ _ e2 (.str _)⟩
    · cases r
      exact .inl ⟨x, rfl, hx, g1 _ _ e2 (.str _)⟩) (T.all_bind.mp h))⟩
inductive SndJ (X : Cx) : List Expr → List (Rho → T D) → Prop where
  | nil : SndJ X [] []
  | cons {e : Expr} {m : Rho → T D} {es : List Expr} {ms : List (Rho → T D)} : Snd X e m → SndJ X es ms → SndJ X (e :: es) (m :: ms)
def joinT : List (Rho → T D) → Str → Rho → T D
  | [], acc, _ => .ret (.str acc)
  | m :: ms, acc, ρ => (m ρ).bind fun d => match d with
    | .str y => cond (decide ((acc ++ y).length ≤ 100000)) (joinT ms (acc ++ y) ρ) .fail
    | _ => .fail
theorem sndJ_wp : ∀ {es : List Expr} {ms : List (Rho → T D)}, SndJ X es ms → PJ X es (es.map (wpE X))
  | _, _, .nil => .nil
  | _, _, .cons _ r => .cons pe_wp (sndJ_wp r)
theorem join_run {π : Addr} {N0 : Addr → Bool} {H0 : Hp} {N : Addr → Bool} {σ : L2.St} {ρ : Rho} : ∀ {es : List Expr} {ms : List (Rho → T D)} {acc : Str} {H : Hp} {Q : VK}, SndJ X es ms → EnvOk X.K X.prog X.w π N0 H0 N H σ ρ → (joinT ms acc ρ).all (Kd X π N H Q) → tJs (es.map (wpE X)) acc σ H fun out H1 => Q (.str out) H1
  | _, _, _, H, _, .nil, I, h => h _ H (Ex.refl I.hn.pot) (.str _)
  | _, _, acc, H, Q, .cons he hr, I, h => by
    refine he I (T.all_mono (fun d hd => ?_) (T.all_bind.mp h))
    intro v H2 e2 r
    split at hd
    · obtain ⟨hl, hd⟩ := cond_all hd
      cases r
      exact ⟨_, rfl, Nat.le_trans (of_decide_eq_true hl) (by decide), join_run hr (I.ext e2) (T.all_mono (fun _ q => q.up e2) hd)⟩
    · exact False.elim hd
theorem s_join {v1 v2 : Expr} {rest : List Expr} {ms : List (Rho → T D)} (h : SndJ X (v1 :: v2 :: rest) ms) : Snd X (.JoinedStr (v1 :: v2 :: rest) pos) (joinT ms Str.empty) := fun {π N0 H0 N H σ ρ Q} I q => ⟨_, pe_joined (sndJ_wp h), join_run h I q⟩
theorem s_join1 (h : Snd X e m) : Snd X (.JoinedStr [e] pos) m := fun {π N0 H0 N H σ ρ Q} I q => ⟨_, pe_joined1 pe_wp, h I q⟩
/-! is, of bools -/
theorem op_isB : OpR X (compareOp .Is) (fun x y H Q => ∃ i j, x = .bl i ∧ y = .bl j ∧ Q (.bl (i == j)) H) := by
  intro pins s σ H x y v u Q I rx ry h
  obtain ⟨i, j, rfl, rfl, q⟩ := h
  cases rx; cases ry
  show wpAny _ _ (do return Value.bool (← isSame (Value.bool i) (Value.bool j))) _ _ _
  have e : isSame (Value.bool i) (Value.bool j) = pure (i == j) := by cases i <;> cases j <;> rfl
  rw [e]
  exact wpAny_bind (wpAny_pure (wpAny_pure ⟨.bl (i == j), H, I, rfl, q⟩))
def opIs : D → D → T D
  | .bl i, .bl j => .ret (.bl (i == j))
  | _, _ => .fail
theorem os_is : OpSnd X (compareOp .Is) opIs := fun {π N H x y dx dy Q} hn rx ry h => by
  unfold opIs at h
  split at h
  · rename_i i j
    have e1 := rx.bool
    have e2 := ry.bool
    subst e1 e2
    exact ⟨_, op_isB, i, j, rfl, rfl, h _ _ (Ex.refl hn.pot) (.bl _)⟩
  · exact False.elim h
end
end Pd

/-! str(o), repr(o) by o's own methods; C(k = v, ..), o.m(k = v, ..). -/
namespace Pd
open PySem L2 PySem.Spec PyProof.Rows

structure OwnTxt (K : PySem.W.Frag) (C : Addr) (nm : Str) (f : Addr) : Prop where
  at_ : PySem.W.findIn K (.ref C) nm = some (some (.ref f))
  fn : PySem.W.isFn K (.ref f) = true
def asStr : D → T D
  | .str x => .ret (.str x)
  | _ => .fail
theorem asStr_all {d : D} {P : D → Prop} (h : (asStr d).all P) : ∃ x, d = .str x ∧ P (.str x) := by
  unfold asStr at h
  split at h
  · exact ⟨_, rfl, h⟩
  · exact False.elim h
/-- a text by the own method for instances of c, by g for all else -/
def txtC (c : Str) (F g : List D → T D) : List D → T D
  | [.ins c2 fs] => (isC c (.ins c2 fs)).bind fun _ => (F [.ins c2 fs]).bind asStr
  | ds => g ds
section
variable {X : Cx} {e : Expr} {es : List Expr} {pos : Pos} {m : Rho → T D}
theorem call_strC {k : Nat} {C f : Addr} {fd : FuncData} {ps : List Str} {F : List D → T D} (O : OwnTxt X.K C "__str__" f) (G : FnOk X.prog X.w X.K X.mg X.base CX0 k f fd ps (spD X.K X.prog X.w 1 F)) (hr : Room (k + 2) X.A) (hb : Binds X.K fd ps []) :
    CallR X (.type "str") (fun xs H Q => ∃ a dx fv, xs = [.ref a] ∧ H a = some (.ins C dx fv) ∧ spD X.K X.prog X.w 1 F [.ref a] H (fun v H2 => ∃ x, v = .str x ∧ Q v H2) E0) := by
  intro pins s σ H xs us Q I r h
  obtain ⟨a, dx, fv, rfl, ha, h⟩ := h
  obtain ⟨u, rfl, ru⟩ := vals1 r
  cases ru
  obtain ⟨mA, M, _, _, _, _⟩ := ins_get I.hok ha
  obtain ⟨od, J, _⟩ := M.look
  have hl := G.len _ _ _ _ h
  refine PySem.W.kso_call (by have := hr.un; show X.A.units + 1 + 1 < cLine; omega) I.kIn J O.at_ O.fn (wpAny_call (codeAny_mono (G.run X.A.in1.in1 X.stack s H ⟨[.ref a], []⟩ [.ref a] [.ref a] _ E0 hr.in1.in1 I.env0.in1.in1 (hb s [.ref a] I.kIn hl) (.cons rfl .nil) h) fun r s' hq => ?_))
  cases r with
  | error er => exact pass0 pins σ H s er s' I hq
  | ok fl =>
    cases fl with
    | ret u =>
      obtain ⟨v, H', I3, rv, x, ex, q⟩ := I.after hq
      subst ex
      obtain ⟨t, rfl⟩ := rv
      exact ⟨.str x, H', I3, ⟨t, rfl⟩, q⟩
    | next => exact False.elim hq
    | brk => exact False.elim hq
    | cont => exact False.elim hq
theorem call_reprC {k : Nat} {C f : Addr} {fd : FuncData} {ps : List Str} {F : List D → T D} (O : OwnTxt X.K C "__repr__" f) (G : FnOk X.prog X.w X.K X.mg X.base CX0 k f fd ps (spD X.K X.prog X.w 1 F)) (hr : Room (k + 1) X.A) (hb : Binds X.K fd ps []) :
    CallR X (.builtin "repr") (fun xs H Q => ∃ a dx fv, xs = [.ref a] ∧ H a = some (.ins C dx fv) ∧ spD X.K X.prog X.w 1 F [.ref a] H (fun v H2 => ∃ x, v = .str x ∧ Q v H2) E0) := by
  intro pins s σ H xs us Q I r h
  obtain ⟨a, dx, fv, rfl, ha, h⟩ := h
  obtain ⟨u, rfl, ru⟩ := vals1 r
  cases ru
  obtain ⟨mA, M, _, _, _, _⟩ := ins_get I.hok ha
  obtain ⟨od, J, _⟩ := M.look
  obtain ⟨m, Fr0⟩ := I.fr
  have hl := G.len _ _ _ _ h
  refine PySem.W.repr_K (by have := hr.un; show X.A.units + 1 < cLine; omega) Fr0 I.ok.mod.kin J O.at_ O.fn (wpAny_call (codeAny_mono (G.run X.A.in1 X.stack s H ⟨[.ref a], []⟩ [.ref a] [.ref a] _ E0 hr.in1 I.env0.in1 (hb s [.ref a] I.kIn hl) (.cons rfl .nil) h) fun r s' hq => ?_))
  cases r with
  | error er => exact pass0 pins σ H s er s' I hq
  | ok fl =>
    cases fl with
    | ret u =>
      obtain ⟨v, H', I3, rv, x, ex, q⟩ := I.after hq
      subst ex
      obtain ⟨t, rfl⟩ := rv
      exact ⟨.str x, H', I3, ⟨t, rfl⟩, q⟩
    | next => exact False.elim hq
    | brk => exact False.elim hq
    | cont => exact False.elim hq
theorem txt_of {c : Str} {C : Addr} {f : Value} {F g : List D → T D} (at_ : ClsAt X.K c C) (h0 : CaSnd X f g) (h1 : CallR X f (fun xs H Q => ∃ a dx fv, xs = [.ref a] ∧ H a = some (.ins C dx fv) ∧ spD X.K X.prog X.w 1 F [.ref a] H (fun v H2 => ∃ x, v = .str x ∧ Q v H2) E0)) : CaSnd X f (txtC c F g) := fun {π N H xs ds Q} hn r h => by
  unfold txtC at h
  split at h
  · rename_i c2 fs
    obtain ⟨fs, e, h⟩ := isC_all (T.all_bind.mp h)
    cases e
    cases r with
    | cons r t =>
    cases t
    obtain ⟨a, d1, C2, fv, rfl, hc, hx, rf⟩ := id r.insE
    have e3 := at_.one hc
    subst e3
    refine ⟨_, h1, a, d1, fv, rfl, hx, π, N, _, hn, .cons r .nil, rfl, T.all_mono (fun d hd v H2 e r => ?_) (T.all_bind.mp h)⟩
    obtain ⟨x, rfl, hd⟩ := asStr_all hd
    cases r
    exact ⟨x, rfl, hd _ _ e (.str x)⟩
  · exact h0 hn r h
/-! by keywords alone -/
def KBind1 (K : PySem.W.Frag) (fd : FuncData) (ps ks : List Str) (perm : List Nat) : Prop := ∀ (s : Shared) (r : Value) (us : List Value), K.In s.heap → us.length = ks.length → BindsTo s fd ⟨[r], ks.zip us⟩ (ps.zip (r :: perm.map fun i => us.getD i .none))
def eMakeK (c : Str) (n : Nat) (perm : List Nat) (F : List D → T (List (Str × D))) (ms : Rho → T (List D)) : Rho → T D := fun ρ => (ms ρ).bind fun ds => cond (ds.length == n) ((F (pickD perm ds)).bind fun fs => .ret (.ins c fs)) .fail
theorem KBind1.kbn {K : PySem.W.Frag} {fd : FuncData} {ps ks : List Str} {perm : List Nat} (h : KBind1 K fd ps ks perm) : KBn K fd ps 1 ks (fun us ws => us ++ perm.map fun i => ws.getD i .none) (fun vs zs => vs ++ perm.map fun i => zs.getD i .non) :=
  ⟨fun s us ws X l1 l2 => match us, l1 with | [r], _ => h s r ws X l2, fun r rz => r.append (vals_pick rz perm)⟩
theorem s_makeK {k n : Nat} {C f : Addr} {fd : FuncData} {ps ks : List Str} {perm : List Nat} {c x : Str} {p : Pos} {F : List D → T (List (Str × D))} {kws : List Keyword} {ms : Rho → T (List D)} (M : Mk X.K C f) (G : FnOk X.prog X.w X.K X.mg X.base CX0 k f fd ps (spI X.K X.prog X.w c n F)) (hr : Room (k + 1) X.A) (hm : X.mg x = some (.ref C)) (at_ : ClsAt X.K c C)
    (hb : KBind1 X.K fd ps ks perm) (hp : perm.length = n) (hkn : ks.length = n) (ha : SndK X kws ms) (hg : Gl X x := by rfl) (hall : (backToKw pos (keywordEach kws X.env)).all (·.1.isSome) = true := by rfl) (hks : (backToKw pos (keywordEach kws X.env)).filterMap (·.1) = ks := by rfl)
    (hdb : (x == ("__debug__" : Str)) = false := by decide) (hpl : ((backTo pos (starEach [] X.env)).any (·.1) || (backToKw pos (keywordEach kws X.env)).any (·.1.isNone)) = false := by rfl) : Snd X (.Call (.Name x p) [] kws pos) (eMakeK c n perm F ms) := fun {π N0 H0 N H σ ρ Q} I h =>
  ⟨_, pe_makeK0 M G hr hg hm hb.kbn pass0 pk_wp hall hks hdb hpl, ha I (T.all_mono (fun ds hds vs H1 e1 r => by
    obtain ⟨hl, hds⟩ := cond_all hds
    have hl : ds.length = n := by simpa using hl
    refine ⟨rfl, by rw [r.length, hl, hkn], fun x dx hx hdx ne => ?_⟩
    have hn := I.hn.ext e1
    obtain ⟨a1, a2, a3⟩ := made_env (C := C) hn hx hdx ne
    have Nx : N x = false := hn.new hx
    refine ⟨π, plus N x, x, dx, C, perm.map fun i => vs.getD i .non, pickD perm ds, rfl, by rw [List.length_map, hp], a1, plus_self, upd_same, at_, rvl_pick (r.mono a2) perm, T.all_mono (fun fs q H' fv keep pot hx2 rf => ⟨rfl, ?_⟩) (T.all_bind.mp hds)⟩
    have k2 : Kp π (Hide (plus N x) H') (Hide N H') := Kp.less fun a h => plus_old h
    refine q (.ref x) H' ⟨fun a o n h => ?_, pot⟩ (.ins at_ (by rw [hide_in Nx]; exact hx2) (hn.pot.ne hx) (RvF.mono k2 rf))
    have h1 := e1.kp a o n h
    exact keep a o n (ne_of_none h1 hx) (a3 a o h1)) (T.all_bind.mp h))⟩
/-- o.m(k = v, ..) -/
def eMethK (c m : Str) (n : Nat) (perm : List Nat) (F : List D → T D) (ma : Rho → T D) (ms : Rho → T (List D)) : Rho → T D := fun ρ => (ma ρ).bind fun d => (insD c m d).bind fun _ => (ms ρ).bind fun ds => cond (ds.length == n) (F (d :: pickD perm ds)) .fail
theorem s_methK {k n : Nat} {C f : Addr} {fd : FuncData} {ps ks : List Str} {perm : List Nat} {c m : Str} {F : List D → T D} {o : Expr} {mo : Rho → T D} {apos : Pos} {pl : Sem Bool} {kws : List Keyword} {ms : Rho → T (List D)} (at_ : ClsAt X.K c C) (cl : Cls X.K C) (hm : Meth X.K C m f) (G : FnOk X.prog X.w X.K X.mg X.base CX0 k f fd ps (spD X.K X.prog X.w (n + 1) F)) (hr : Room k X.A)
    (hb : KBind1 X.K fd ps ks perm) (hp : perm.length = n) (hkn : ks.length = n)
    (ho : Snd X o mo) (ha : SndK X kws ms) (hall : (backToKw pos (keywordEach kws X.env)).all (·.1.isSome) = true := by rfl) (hks : (backToKw pos (keywordEach kws X.env)).filterMap (·.1) = ks := by rfl)
    (hpl : ((backTo pos (starEach [] X.env)).any (·.1) || (backToKw pos (keywordEach kws X.env)).any (·.1.isNone)) = false := by rfl)
    (ht : eval (.Call (.Attribute o m apos) [] kws pos) X.env = (do
      let ov ← eval o X.env
      standAt apos.atName
      let (f, first) ← holding [ov] (getMethod ov m pl)
      callWith pos f first (backTo pos (starEach [] X.env)) (backToKw pos (keywordEach kws X.env))) := by rfl) :
    Snd X (.Call (.Attribute o m apos) [] kws pos) (eMethK c m n perm F mo ms) := fun {π N0 H0 N H σ ρ Q} I h => by
  refine ⟨fun σ H Q => wpE X o σ H fun x H1 => ∃ a dx fv, x = .ref a ∧ H1 a = some (.ins C dx fv) ∧ fv.lookup m = none ∧ wpK X kws σ H1 fun zs H2 => zs.length = n ∧ spD X.K X.prog X.w (n + 1) F (.ref a :: perm.map fun i => zs.getD i .non) H2 Q E0, ⟨fun pins s σ H Q J q => ?_⟩, ?_⟩
  · refine PySem.W.methodCall_KW (pl := pl) (thn (pe_wp.run pins s σ H _ J q) fun u s1 ⟨x, H1, I1, rx, a, dx, fs, ex, ea, l, q⟩ => ?_) ht
    subst ex
    obtain rfl : u = Value.ref a := rx
    refine getmeth_ok I1 ea cl hm l ?_
    refine PySem.W.callWith_KW0 (first := [.ref a]) (h₀ := X.base) I1.ok.mod.kin hm.kp hall (thn (pk_wp.run pos pins s1 σ H1 _ I1 q) fun ws s2 ⟨zs, H2, I2, rz, hz, q2⟩ => ⟨I2.kIn, ?_⟩) hpl
    rw [hks]
    show wpAny _ _ (call (.ref f) [.ref a] (ks.zip ws)) _ _ _
    have r2 := vals_pick rz perm
    refine wpAny_call (codeAny_mono (G.run X.A X.stack s2 H2 ⟨[.ref a], ks.zip ws⟩ (.ref a :: perm.map fun i => ws.getD i .none) (.ref a :: perm.map fun i => zs.getD i .non) Q E0 hr I2.env0 (hb s2 (.ref a) ws I2.kIn (by rw [← rz.length, hz, hkn])) (.cons rfl r2) q2) fun r s' hq => ?_)
    cases r with
    | error e => exact pass0 pins σ H2 s2 e s' I2 hq
    | ok fl =>
      cases fl with
      | ret u => exact I2.after hq
      | next => exact False.elim hq
      | brk => exact False.elim hq
      | cont => exact False.elim hq
  · refine ho I (T.all_mono (fun d hd => ?_) (T.all_bind.mp h))
    intro x H1 e1 rx
    obtain ⟨fs, rfl, nf, hd⟩ := insD_all (T.all_bind.mp hd)
    obtain ⟨a, dx, C2, fv, rfl, hc, hx, rf⟩ := id rx.insE
    have e3 := at_.one hc
    subst e3
    refine ⟨a, dx, fv, rfl, hx, rf.none_of nf, ha (I.ext e1) (T.all_mono (fun ds hd => ?_) (T.all_bind.mp hd))⟩
    intro vs H2 e2 r
    obtain ⟨hl, hd⟩ := cond_all hd
    have hl : ds.length = n := by simpa using hl
    refine ⟨by rw [r.length]; exact hl, π, N, _, I.hn.ext (e1.trans e2), .cons (rx.mono e2.kp.hide) (rvl_pick r perm), by rw [List.length_cons, List.length_map, hp], T.all_mono (fun _ q v H3 e3 r3 => q v H3 ((e1.trans e2).trans e3) r3) hd⟩
end
end Pd

/-! xs[::-1], list * n, a class's own method called on the class. -/
namespace Pd
open PySem L2 PySem.Spec PyProof.Rows
section
variable {X : Cx} {a b e : Expr} {es : List Expr} {ma mb m : Rho → T D} {pos : Pos}
theorem RvL.reverse {K : PySem.W.Frag} {P : Program} {w : World} {π : Addr} {H : Hp} : ∀ {ds : List D} {vs : List V}, RvL K P w π H vs ds → RvL K P w π H vs.reverse ds.reverse
  | _, _, .nil => .nil
  | _, _, .cons r t => by
    rw [List.reverse_cons, List.reverse_cons]
    exact (RvL.reverse t).append (.cons r .nil)
def lRev (m : Rho → T D) : Rho → T (List D) := fun ρ => (m ρ).bind fun d => (asL d).bind fun ds => .ret ds.reverse
theorem asL_all {d : D} {P : List D → Prop} (h : (asL d).all P) : ∃ ds, d = .lst ds ∧ P ds := by
  unfold asL at h
  split at h
  · exact ⟨_, rfl, h⟩
  · exact False.elim h
theorem Kl.made {π : Addr} {N : Addr → Bool} {H H1 : Hp} {Q : VK} {ds : List D} {vs : List V} {p : Addr} (h : Kl X π N H Q ds) (pt : PotOk H π) (e : Ex π H H1) (r : RvL X.K X.prog X.w π (Hide N H1) vs ds) (hp : H1 p = none) : Q (.ref p) (upd H1 p (.lst vs)) := by
  have hp0 : H p = none := by
    cases c : H p with
    | none => rfl
    | some o => rw [e.kp p o (e.pot.ne hp) c] at hp; cases hp
  exact h p vs _ (e.trans (Ex.new e.pot hp)) hp0 upd_same (r.mono ((Ex.new e.pot hp).hidden hp))
theorem sl_rev {k : Nat} {p1 p2 p3 : Pos} (ha : Snd X a ma) : SndL X (.Subscript a (.Slice none none (some (.UnaryOp .USub (.Constant (.int 1) k p1) p2)) p3) pos) (lRev ma) := fun {π N0 H0 N H σ ρ Q} I h =>
  ⟨_, pe_revL pe_wp, ha I (T.all_mono (fun d hd v H1 e r => by
    obtain ⟨ds, rfl, hd⟩ := asL_all (T.all_bind.mp hd)
    obtain ⟨l, vs, rfl, hl, _, _, rl⟩ := id r.lstE
    exact ⟨l, vs, rfl, .inl (.inl hl), fun p hp => Kl.made hd I.hn.pot e rl.reverse hp⟩) (T.all_bind.mp h))⟩
def lRep (ma mb : Rho → T D) : Rho → T (List D) := fun ρ => (ma ρ).bind fun d => (asL d).bind fun ds => (mb ρ).bind fun k => match k with
  | .int k => cond (decide (0 ≤ k) && decide (k ≤ 1000) && decide (ds.length ≤ 100)) (.ret (rep k.toNat ds)) .fail
  | _ => .fail
theorem sl_rep (ha : Snd X a ma) (hb : Snd X b mb) : SndL X (.BinOp a .Mult b pos) (lRep ma mb) := fun {π N0 H0 N H σ ρ Q} I h =>
  ⟨_, pe_op op_rep pe_wp pe_wp, ha I (T.all_mono (fun d hd v H1 e r => by
    obtain ⟨ds, rfl, hd⟩ := asL_all (T.all_bind.mp hd)
    refine hb (I.ext e) (T.all_mono (fun k hk v2 H2 e2 r2 => ?_) (T.all_bind.mp hd))
    split at hk
    · rename_i k
      obtain ⟨hc, hk⟩ := cond_all hk
      simp only [Bool.and_eq_true, decide_eq_true_eq] at hc
      obtain ⟨⟨c0, c1⟩, c2⟩ := hc
      cases r2
      obtain ⟨l, vs, rfl, hl, n1, n2, rl⟩ := id r.lstE
      have hl2 := e2.kp l _ n2 hl
      refine ⟨l, k, vs, rfl, rfl, hl2, by omega, by omega, ?_, fun p hp => Kl.made hk I.hn.pot (e.trans e2) (rep_rv (rl.mono e2.kp.hide) _) hp⟩
      rw [rl.length]
      have : ds.length * k.toNat ≤ 100 * 1000 := Nat.mul_le_mul c2 (by omega)
      exact Nat.le_trans this (by decide)
    · exact False.elim hk) (T.all_bind.mp h))⟩
/-! C.m(..), m a classmethod -/
def spC (K : PySem.W.Frag) (P : Program) (w : World) (C : Addr) (n : Nat) (F : List D → T D) : Sp := fun vs H Q E => ∃ args, vs = .ref C :: args ∧ spD K P w n F args H Q E
theorem s_cmeth {k n : Nat} {C p g : Addr} {mc : Value} {c m : Str} {F : List D → T D} {np apos : Pos} {pl : Sem Bool} {ms : Rho → T (List D)} (at_ : X.mg c = some (.ref C)) (r : ClX.CRead X.K C mc) (cm : ClX.CMet X.K C mc m p g) (G : FnR X.prog X.w X.K X.mg X.base CX0 k g (spC X.K X.prog X.w C n F)) (hr : Room k X.A)
    (ha : SndA X (e :: es) ms) (hg : Gl X c := by rfl) (hdb : (c == ("__debug__" : Str)) = false := by decide) (hst : starEach (e :: es) X.env = (false, eval e X.env) :: starEach es X.env := by rfl) (hpl : (backTo pos (starEach es X.env)).any (·.1) = false := by rfl)
    (ht : eval (.Call (.Attribute (.Name c np) m apos) (e :: es) [] pos) X.env = (do
      let ov ← eval (.Name c np) X.env
      standAt apos.atName
      let (f, first) ← holding [ov] (getMethod ov m pl)
      callWith pos f first (backTo pos (starEach (e :: es) X.env)) (backToKw pos (keywordEach [] X.env))) := by rfl) :
    Snd X (.Call (.Attribute (.Name c np) m apos) (e :: es) [] pos) (eCall n F ms) := fun {π N0 H0 N H σ ρ Q} I h =>
  ⟨_, ClX.pe_cmeth (pe_glob (v := .ref C) hg at_ rfl hdb) r cm G hr pass0 pa_wp hst hpl ht, rfl, ha I (T.all_mono (fun ds hd vs H1 e1 r => by
    obtain ⟨hl, hd⟩ := cond_all hd
    exact ⟨vs, rfl, π, N, ds, I.hn.ext e1, r, by rw [r.length]; exact by simpa using hl, T.all_mono (fun d q v H3 e3 r3 => q v H3 (e1.trans e3) r3) hd⟩) (T.all_bind.mp h))⟩
/-- .. by keywords alone -/
theorem s_cmethK {k n : Nat} {C p g : Addr} {fd : FuncData} {ps ks : List Str} {perm : List Nat} {mc : Value} {c m : Str} {F : List D → T D} {np apos : Pos} {pl : Sem Bool} {kws : List Keyword} {ms : Rho → T (List D)} (at_ : X.mg c = some (.ref C)) (r : ClX.CRead X.K C mc) (cm : ClX.CMet X.K C mc m p g) (G : FnOk X.prog X.w X.K X.mg X.base CX0 k g fd ps (spC X.K X.prog X.w C n F)) (hr : Room k X.A)
    (hb : KBind1 X.K fd ps ks perm) (hp : perm.length = n) (hkn : ks.length = n)
    (ha : SndK X kws ms) (hg : Gl X c := by rfl) (hdb : (c == ("__debug__" : Str)) = false := by decide) (hall : (backToKw pos (keywordEach kws X.env)).all (·.1.isSome) = true := by rfl) (hks : (backToKw pos (keywordEach kws X.env)).filterMap (·.1) = ks := by rfl)
    (hpl : ((backTo pos (starEach [] X.env)).any (·.1) || (backToKw pos (keywordEach kws X.env)).any (·.1.isNone)) = false := by rfl)
    (ht : eval (.Call (.Attribute (.Name c np) m apos) [] kws pos) X.env = (do
      let ov ← eval (.Name c np) X.env
      standAt apos.atName
      let (f, first) ← holding [ov] (getMethod ov m pl)
      callWith pos f first (backTo pos (starEach [] X.env)) (backToKw pos (keywordEach kws X.env))) := by rfl) :
    Snd X (.Call (.Attribute (.Name c np) m apos) [] kws pos) (eCallK n perm F ms) := fun {π N0 H0 N H σ ρ Q} I h => by
  refine ⟨fun σ H Q => wpK X kws σ H fun zs H2 => zs.length = n ∧ spD X.K X.prog X.w n F (perm.map fun i => zs.getD i .non) H2 Q E0, ⟨fun pins s σ H Q J q => ?_⟩, ?_⟩
  · refine PySem.W.methodCall_KW (pl := pl) (thn ((pe_glob (v := .ref C) (pos := np) hg at_ rfl hdb).run pins s σ H (fun v H1 => v = .ref C ∧ H1 = H) J ⟨rfl, rfl⟩) fun u s1 ⟨x, H1, I1, rx, ex, eh⟩ => ?_) ht
    subst ex eh
    obtain rfl : u = Value.ref C := rx
    refine ClX.getmethcm_ok I1 r cm fun s2 I2 => ?_
    refine PySem.W.callWith_of (P := PySem.W.MethP X.K s1.heap.objs.size g (.ref C)) hpl (PySem.W.keeps_M cm.fi) (evalArgs_kw2_nil hall (thn (pk_wp.run pos _ s2 σ H1 _ I2 q) fun ws s3 ⟨zs, H2, I3, rz, hz, q2⟩ => ⟨⟨ClX.pin_at I3, I3.kIn⟩, ?_⟩))
    rw [hks]
    show wpAny _ _ (call (.ref s1.heap.objs.size) [] (ks.zip ws)) _ _ _
    have r2 := vals_pick rz perm
    have z : wpAny (model X.prog X.w) X.A (call (.ref s1.heap.objs.size) [] (ks.zip ws)) (EP X ((s1.heap.objs.size, PySem.W.methodObj (.ref g) (.ref C)) :: pins) σ Q) X.xe s3 := by
      refine wpAny_call (PySem.W.method_call (ClX.pin_at I3) (codeAny_mono (G.run X.A X.stack s3 H2 ⟨[.ref C], ks.zip ws⟩ (.ref C :: perm.map fun i => ws.getD i .none) (.ref C :: perm.map fun i => zs.getD i .non) Q E0 hr I3.env0 (hb s3 (.ref C) ws I3.kIn (by rw [← rz.length, hz, hkn])) (.cons rfl r2) ⟨_, rfl, q2⟩) fun r s' hq => ?_))
      cases r with
      | error e => exact pass0 _ σ H2 s3 e s' I3 hq
      | ok fl =>
        cases fl with
        | ret u => exact I3.after hq
        | next => exact False.elim hq
        | brk => exact False.elim hq
        | cont => exact False.elim hq
    exact thn z fun _ _ y => ClX.unpinE y
  · refine ha I (T.all_mono (fun ds hd => ?_) (T.all_bind.mp h))
    intro vs H2 e1 r
    obtain ⟨hn, hd⟩ := cond_all hd
    have hn : ds.length = n := by simpa using hn
    exact ⟨by rw [r.length]; exact hn, π, N, pickD perm ds, I.hn.ext e1, rvl_pick r perm, by rw [List.length_map]; exact hp, T.all_mono (fun d q v H3 e3 r3 => q v H3 (e1.trans e3) r3) hd⟩
end
end Pd

/-! {} as a value, isinstance with dicts about, isinstance(x, (T1, T2)); a name ahead of the known ones. -/
namespace Pd
open PySem L2 PySem.Spec PyProof.Rows
section
variable {X : Cx} {π : Addr} {N0 N : Addr → Bool} {H0 H : Hp} {pins : List (Addr × Obj)} {σ : L2.St} {ρ : Rho} {s : Shared} {pos : Pos} {e : Expr} {m : Rho → T D}
theorem pe_dict0 : PE X (.Dict [] [] pos) (fun _ H Q => ∀ p od, H p = none → Q (.ref p) (upd H p (.frz od (DN X.prog X.w p [])))) := ⟨fun pins s σ H Q I h => by
  have hn := I.hok.fresh (Nat.le_refl s.heap.objs.size)
  have I1 := I.laid (a := s.heap.objs.size) (o := DN X.prog X.w s.heap.objs.size []) (h' := s.heap.push { cls := .type "dict", data := .dict #[] }) (t' := s.toks) (fun _ _ q => Heap.get?_push_of_some _ q) (Nat.le_refl _) (dn_empty s.heap I.big)
  obtain ⟨od, I2⟩ := I1.lock upd_same True.intro
  rw [upd_upd] at I2
  exact wpAny_Dict_empty ⟨.ref s.heap.objs.size, _, I2, rfl, h _ od hn⟩⟩
theorem s_dict0 : Snd X (.Dict [] [] pos) (eC (.dic [])) := fun {π N0 H0 N H σ ρ Q} I h => ⟨_, pe_dict0, fun p od hp => by
  have Np := I.hn.new hp
  exact h (.ref p) _ (Ex.new I.hn.pot hp) (.dic (by rw [hide_in Np]; exact upd_same) (I.hn.pot.ne hp) .nil)⟩
/-! isinstance -/
theorem call_isiD : CallR X (.builtin "isinstance") (fun xs H Q => ∃ (a : Addr) (ys : List (NestedKey × Addr × V)) (c : V) (u : Value) (b : Bool), xs = [.ref a, c] ∧ ClsV c u ∧ Rd H a (DN X.prog X.w a ys) ∧ EntAt X H ys ∧ PySem.W.kitOne X.K (.type "dict") u = some b ∧ Q (.bl b) H) := by
  intro pins s σ H xs us Q I r h
  obtain ⟨a, ys, c, u, b, rfl, k, hr, en, e, q⟩ := h
  obtain ⟨u1, u2, rfl, r1, r2⟩ := vals2 r
  cases (show u1 = Value.ref a from r1)
  have e2 := k.eq r2
  subst e2
  obtain ⟨_, _, zs, _, o, es, ep, h1, h2, _⟩ := dn_of I hr en
  exact PySem.W.kia_one PySem.W.kitx_dict I.kIn ⟨o, h1, h2.1⟩ e (fun z => nomatch z) fun tk => ⟨.bl b, H, I.tok tk, rfl, q⟩
def isDY (cs : List Str) (k : Ty5) (d : D) : T D := match d with
  | .dic _ => .ret (.bl false)
  | d => isDC cs k d
def isOY (cs : List Str) (c0 : Str) (d : D) : T D := match d with
  | .dic _ => .ret (.bl false)
  | d => isOC cs c0 d
theorem kit_dict (k : Ty5) : kitB "dict" k.nm = some false := by cases k <;> decide +kernel
theorem Rv.dicR {K : PySem.W.Frag} {P : Program} {w : World} {π : Addr} {N : Addr → Bool} {H : Hp} {v : V} {kvs : List (D × D)} (r : Rv K P w π (Hide N H) v (.dic kvs)) : ∃ a xs, v = .ref a ∧ Rd H a (DN P w a xs) ∧ ∃ kvs', RvD K P w π (Hide N H) xs kvs' := by
  obtain ⟨a, od, xs, rfl, h, _, _, rd⟩ := r.dicE
  exact ⟨a, xs, rfl, .inr ⟨od, h⟩, _, rd⟩
theorem s_isinstY (cs : List Str) {k : Ty5} {ty : Str} {p p2 : Pos} (kn : KnownC X.K cs) (hm : X.mg "isinstance" = none) (hmt : X.mg ty = none) (hb : bootBuiltins ty = some (.type k.nm)) (ha : Snd X e m) (hg : Gl X "isinstance" := by rfl) (hgt : Gl X ty := by rfl) (hbi : bootBuiltins "isinstance" = some (.builtin "isinstance") := by decide +kernel) (hn : ty ≠ "__name__" := by decide) (hd : (ty == ("__debug__" : Str)) = false := by decide)
    (he : starEach [e, .Name ty p] X.env = (false, eval e X.env) :: starEach [.Name ty p] X.env := by rfl) (he2 : starEach [.Name ty p] X.env = (false, eval (.Name ty p) X.env) :: starEach [] X.env := by rfl) (hpl : (backTo pos (starEach [.Name ty p] X.env)).any (·.1) = false := by rfl) :
    Snd X (.Call (.Name "isinstance" p2) [e, .Name ty p] [] pos) (eUn (isDY cs k) m) := fun {π N0 H0 N H σ ρ Q} I h =>
  ⟨_, pe_callB ca_wp hg hm hbi (pa_cons pe_wp (pa_cons (pe_bltn (v := .ty k.nm) hgt hmt hb rfl hn hd) pa_nil he2) he) (by decide) (by decide) he hpl, ha I (T.all_mono (fun d hd => by
    intro v H2 e2 r
    unfold isDY at hd
    split at hd
    · obtain ⟨a, xs, rfl, rd, kvs, rk⟩ := r.dicR
      exact ⟨_, call_isiD, a, xs, .ty k.nm, .type k.nm, false, rfl, .ty _, rd, ⟨_, _, _, rk⟩, kit_ty (kit_dict k), hd _ _ e2 (.bl _)⟩
    · unfold isDC at hd
      split at hd
      · obtain ⟨hc, hd⟩ := cond_all hd
        obtain ⟨C, at_, ct, tx⟩ := isi_ins kn hc r
        exact ⟨_, call_isi, v, .ty k.nm, .ref C, .type k.nm, false, rfl, .ty _, tx, ct.no k, hd _ _ e2 (.bl _)⟩
      · obtain ⟨t, c, hd⟩ := isD_all hd
        exact ⟨_, call_isi, v, .ty k.nm, .type t.nm, .type k.nm, Ty5.sub t k, rfl, .ty _, ty_of r c, kit_ty (kitB_sub t k), hd _ _ e2 (.bl _)⟩) (T.all_bind.mp h))⟩
theorem s_isinstOY (cs : List Str) {c0 : Str} {C0 : Addr} {p p2 : Pos} (kn : KnownC X.K cs) (at0 : ClsAt X.K c0 C0) (ct0 : ClsTy X.K C0) (cd0 : PySem.W.kitOne X.K (.type "dict") (.ref C0) = some false) (df : ∀ c C, cs.contains c = true → (c == c0) = false → ClsAt X.K c C → PySem.W.kitOne X.K (.ref C) (.ref C0) = some false) (hm : X.mg "isinstance" = none) (hmt : X.mg c0 = some (.ref C0)) (ha : Snd X e m) (hg : Gl X "isinstance" := by rfl) (hgt : Gl X c0 := by rfl) (hbi : bootBuiltins "isinstance" = some (.builtin "isinstance") := by decide +kernel) (hd : (c0 == ("__debug__" : Str)) = false := by decide)
    (he : starEach [e, .Name c0 p] X.env = (false, eval e X.env) :: starEach [.Name c0 p] X.env := by rfl) (he2 : starEach [.Name c0 p] X.env = (false, eval (.Name c0 p) X.env) :: starEach [] X.env := by rfl) (hpl : (backTo pos (starEach [.Name c0 p] X.env)).any (·.1) = false := by rfl) :
    Snd X (.Call (.Name "isinstance" p2) [e, .Name c0 p] [] pos) (eUn (isOY cs c0) m) := fun {π N0 H0 N H σ ρ Q} I h =>
  ⟨_, pe_callB ca_wp hg hm hbi (pa_cons pe_wp (pa_cons (pe_glob (v := .ref C0) hgt hmt rfl hd) pa_nil he2) he) (by decide) (by decide) he hpl, ha I (T.all_mono (fun d hq => by
    intro v H2 e2 r
    unfold isOY at hq
    split at hq
    · obtain ⟨a, xs, rfl, rd, kvs, rk⟩ := r.dicR
      exact ⟨_, call_isiD, a, xs, .ref C0, .ref C0, false, rfl, .own _, rd, ⟨_, _, _, rk⟩, cd0, hq _ _ e2 (.bl _)⟩
    · unfold isOC at hq
      split at hq
      · rename_i c fs nn
        cases q : c == c0 with
        | true =>
          rw [q] at hq
          have ec := eq_of_beq q
          subst ec
          obtain ⟨a, dx, C2, fv, rfl, h2, hx, _⟩ := r.insE
          have e3 := at0.one h2
          subst e3
          exact ⟨_, call_isi, .ref a, .ref C2, .ref C2, .ref C2, true, rfl, .own _, .base (ct0.ty H2 a dx fv hx), by unfold PySem.W.kitOne; rw [if_pos (by simp)], hq _ _ e2 (.bl _)⟩
        | false =>
          rw [q] at hq
          obtain ⟨hc, hq⟩ := cond_all hq
          obtain ⟨C, at_, ct, tx⟩ := isi_ins kn hc r
          exact ⟨_, call_isi, v, .ref C0, .ref C, .ref C0, false, rfl, .own _, tx, df c C hc q at_, hq _ _ e2 (.bl _)⟩
      · obtain ⟨t, c, hq⟩ := optT_all (T.all_bind.mp hq)
        exact ⟨_, call_isi, v, .ref C0, .type t.nm, .ref C0, false, rfl, .own _, ty_of r c, ct0.is t, hq _ _ e2 (.bl _)⟩) (T.all_bind.mp h))⟩
/-- isinstance(x, (T1, T2)) -/
def isD2 (cs : List Str) (k1 k2 : Ty5) (d : D) : T D := match d with
  | .ins c _ => cond (cs.contains c) (.ret (.bl false)) .fail
  | d => match tyD d with
    | some t => .ret (.bl (Ty5.sub t k1 || Ty5.sub t k2))
    | none => .fail
theorem kit2 {K : PySem.W.Frag} {t : Value} {a b : String} {x y : Bool} (h1 : PySem.W.kitOne K t (.type a) = some x) (h2 : PySem.W.kitOne K t (.type b) = some y) : PySem.W.kitAny K t [.type a, .type b] = some (x || y) := by
  cases x with
  | true => exact kitAny_cons h1 (fun z => nomatch z) fun _ => rfl
  | false =>
    refine kitAny_cons h1 (fun _ => ?_) fun z => nomatch z
    cases y with
    | true => exact kitAny_cons h2 (fun z => nomatch z) fun _ => rfl
    | false => exact kitAny_cons h2 (fun _ => rfl) fun z => nomatch z
theorem s_isinst2 (cs : List Str) {k1 k2 : Ty5} {t1 t2 : Str} {p p2 p3 p4 : Pos} {kk : Nat} (kn : KnownC X.K cs) (hm : X.mg "isinstance" = none) (hm1 : X.mg t1 = none) (hm2 : X.mg t2 = none) (hb1 : bootBuiltins t1 = some (.type k1.nm)) (hb2 : bootBuiltins t2 = some (.type k2.nm)) (ha : Snd X e m) (hg : Gl X "isinstance" := by rfl) (hg1 : Gl X t1 := by rfl) (hg2 : Gl X t2 := by rfl) (hbi : bootBuiltins "isinstance" = some (.builtin "isinstance") := by decide +kernel)
    (hn1 : t1 ≠ "__name__" := by decide) (hd1 : (t1 == ("__debug__" : Str)) = false := by decide) (hn2 : t2 ≠ "__name__" := by decide) (hd2 : (t2 == ("__debug__" : Str)) = false := by decide)
    (he : starEach [e, .Tuple [.Name t1 p, .Name t2 p3] kk p4] X.env = (false, eval e X.env) :: starEach [.Tuple [.Name t1 p, .Name t2 p3] kk p4] X.env := by rfl) (he2 : starEach [.Tuple [.Name t1 p, .Name t2 p3] kk p4] X.env = (false, eval (.Tuple [.Name t1 p, .Name t2 p3] kk p4) X.env) :: starEach [] X.env := by rfl)
    (he3 : starEach [.Name t1 p, .Name t2 p3] X.env = (false, eval (.Name t1 p) X.env) :: starEach [.Name t2 p3] X.env := by rfl) (he4 : starEach [.Name t2 p3] X.env = (false, eval (.Name t2 p3) X.env) :: starEach [] X.env := by rfl) (hpl : (backTo pos (starEach [.Tuple [.Name t1 p, .Name t2 p3] kk p4] X.env)).any (·.1) = false := by rfl) :
    Snd X (.Call (.Name "isinstance" p2) [e, .Tuple [.Name t1 p, .Name t2 p3] kk p4] [] pos) (eUn (isD2 cs k1 k2) m) := fun {π N0 H0 N H σ ρ Q} I h =>
  ⟨_, pe_callB ca_wp hg hm hbi (pa_cons pe_wp (pa_cons (pe_tup (pa_cons (pe_bltn (v := .ty k1.nm) hg1 hm1 hb1 rfl hn1 hd1) (pa_cons (pe_bltn (v := .ty k2.nm) hg2 hm2 hb2 rfl hn2 hd2) pa_nil he4) he3)) pa_nil he2) he) (by decide) (by decide) he hpl, ha I (T.all_mono (fun d hd => by
    intro v H2 e2 r
    refine ⟨show 2 ≤ sizeLine by decide, fun T hT => ?_⟩
    have e3 := e2.trans (Ex.new (o := .tup [.ty k1.nm, .ty k2.nm]) e2.pot hT)
    have r3 := r.mono (Ex.new (o := .tup [.ty k1.nm, .ty k2.nm]) e2.pot hT).kp.hide
    unfold isD2 at hd
    split at hd
    · obtain ⟨hc, hd⟩ := cond_all hd
      obtain ⟨C, at_, ct, tx⟩ := isi_ins kn hc r3
      exact ⟨_, call_isiT, v, T, _, .ref C, [.type k1.nm, .type k2.nm], false, rfl, upd_same, .cons (.ty _) (.cons (.ty _) .nil), tx, kit2 (ct.no k1) (ct.no k2), hd _ _ e3 (.bl _)⟩
    · split at hd
      · rename_i t c
        exact ⟨_, call_isiT, v, T, _, .type t.nm, [.type k1.nm, .type k2.nm], _, rfl, upd_same, .cons (.ty _) (.cons (.ty _) .nil), ty_of r3 c, kit2 (kit_ty (kitB_sub t k1)) (kit_ty (kitB_sub t k2)), hd _ _ e3 (.bl _)⟩
      · exact False.elim hd) (T.all_bind.mp h))⟩
end
/-! a name ahead -/
theorem EnvOk.consUn {K : PySem.W.Frag} {P : Program} {w : World} {π : Addr} {N0 N : Addr → Bool} {H0 H : Hp} {σ : L2.St} {ρ : Rho} (I : EnvOk K P w π N0 H0 N H σ ρ) (x : Option V) : EnvOk K P w π N0 H0 N H (x :: σ) (.un :: ρ) where
  hn := I.hn
  ex := I.ex
  sub := I.sub
  own0 := I.own0
  len := by rw [List.length_cons, List.length_cons, I.len]
  val := fun i d h => match i, h with
    | 0, h => by cases h
    | i + 1, h => I.val i d h
  own := fun i y h ho => match i, h with
    | 0, h => by cases h; cases ho
    | i + 1, h => I.own i y h ho
  inj := fun i j e f l h1 h2 o1 o2 s1 s2 => match i, j, h1, h2, s1, s2 with
    | 0, _, h1, _, _, _ => by cases h1; cases o1
    | _ + 1, 0, _, h2, _, _ => by cases h2; cases o2
    | i + 1, j + 1, h1, h2, s1, s2 => congrArg Nat.succ (I.inj i j e f l h1 h2 o1 o2 s1 s2)
end Pd

/-! What a text's defs, methods, properties, classes promise, each in one word; the rules that use such a word. -/
namespace Pd
open PySem L2 PySem.Spec PyProof.Rows
section
variable (P : Program) (w : World) (K : PySem.W.Frag) (mg : Str → Option Value) (base : Heap)
/-- the def of that name -/
def Pm (x : Str) (k n : Nat) (ps : List Str) (F : List D → T D) : Prop := ∃ (a : Addr) (fd : FuncData), mg x = some (.ref a) ∧ PySem.W.keepIn K (.ref a) = true ∧ FnOk P w K mg base CX0 k a fd ps (spD K P w n F) ∧ Binds K fd ps []
/-- .. where no repr is under way -/
def PmG (x : Str) (k n : Nat) (ps : List Str) (F : List D → T D) : Prop := ∃ (a : Addr) (fd : FuncData), mg x = some (.ref a) ∧ PySem.W.keepIn K (.ref a) = true ∧ FnG P w K mg base CX0 k a fd ps (spD K P w n F) ∧ Binds K fd ps []
/-- the def, by keywords -/
def PmK (x : Str) (k n : Nat) (ps ks : List Str) (perm : List Nat) (F : List D → T D) : Prop := ∃ (a : Addr) (fd : FuncData), mg x = some (.ref a) ∧ PySem.W.keepIn K (.ref a) = true ∧ FnOk P w K mg base CX0 k a fd ps (spD K P w n F) ∧ KBind K fd ps ks perm
/-- the method -/
def PmM (c m : Str) (k n : Nat) (ps : List Str) (F : List D → T D) : Prop := ∃ (C a : Addr) (fd : FuncData), ClsAt K c C ∧ Cls K C ∧ Meth K C m a ∧ FnOk P w K mg base CX0 k a fd ps (spD K P w (n + 1) F) ∧ Binds K fd ps []
def PmMK (c m : Str) (k n : Nat) (ps ks : List Str) (perm : List Nat) (F : List D → T D) : Prop := ∃ (C a : Addr) (fd : FuncData), ClsAt K c C ∧ Cls K C ∧ Meth K C m a ∧ FnOk P w K mg base CX0 k a fd ps (spD K P w (n + 1) F) ∧ KBind1 K fd ps ks perm
/-- the property -/
def PmP (c f : Str) (k : Nat) (F : List D → T D) : Prop := ∃ (C p g : Addr) (fd : FuncData) (ps : List Str), ClsAt K c C ∧ Cls K C ∧ PropOf K C f p g ∧ FnOk P w K mg base CX0 k g fd ps (spD K P w 1 F) ∧ Binds K fd ps []
/-- the class is made by n values, dds behind them -/
def PmC (c : Str) (k n : Nat) (dds : List D) (F : List D → T (List (Str × D))) : Prop := ∃ (C a : Addr) (fd : FuncData) (ps : List Str) (dvs : List V) (dv : List Value), Mk K C a ∧ ClsAt K c C ∧ mg c = some (.ref C) ∧ FnOk P w K mg base CX0 k a fd ps (spI K P w c (n + dvs.length) F) ∧ Binds K fd ps dv ∧ Vals dvs dv ∧ ∀ π H, RvL K P w π H dvs dds
def PmCK (c : Str) (k n : Nat) (ks : List Str) (perm : List Nat) (F : List D → T (List (Str × D))) : Prop := ∃ (C a : Addr) (fd : FuncData) (ps : List Str), Mk K C a ∧ ClsAt K c C ∧ mg c = some (.ref C) ∧ FnOk P w K mg base CX0 k a fd ps (spI K P w c n F) ∧ KBind1 K fd ps ks perm
/-- the text of an instance -/
def PmT (c nm : Str) (k : Nat) (F : List D → T D) : Prop := ∃ (C a : Addr) (fd : FuncData) (ps : List Str), ClsAt K c C ∧ OwnTxt K C nm a ∧ FnOk P w K mg base CX0 k a fd ps (spD K P w 1 F) ∧ Binds K fd ps []
end
section
variable {X : Cx} {e : Expr} {es : List Expr} {pos : Pos} {m : Rho → T D} {ms : Rho → T (List D)} {k n : Nat} {ps ks : List Str} {perm : List Nat} {F : List D → T D}
theorem s_callP {x : Str} {p : Pos} (h : Pm X.prog X.w X.K X.mg X.base x k n ps F) (hr : Room k X.A) (ha : SndA X (e :: es) ms) (hg : Gl X x := by rfl) (hdb : (x == ("__debug__" : Str)) = false := by decide) (he : starEach (e :: es) X.env = (false, eval e X.env) :: starEach es X.env := by rfl) (hpl : (backTo pos (starEach es X.env)).any (·.1) = false := by rfl) :
    Snd X (.Call (.Name x p) (e :: es) [] pos) (eCall n F ms) := let ⟨_, _, hm, hk, G, B⟩ := h; s_call G hr hm hk B ha hg hdb he hpl
theorem s_callPG {x : Str} {p : Pos} (h : PmG X.prog X.w X.K X.mg X.base x k n ps F) (hr : Room k X.A) (hgd : X.A.guards = some []) (ha : SndA X (e :: es) ms) (hg : Gl X x := by rfl) (hdb : (x == ("__debug__" : Str)) = false := by decide) (he : starEach (e :: es) X.env = (false, eval e X.env) :: starEach es X.env := by rfl) (hpl : (backTo pos (starEach es X.env)).any (·.1) = false := by rfl) :
    Snd X (.Call (.Name x p) (e :: es) [] pos) (eCall n F ms) := let ⟨_, _, hm, hk, G, B⟩ := h; s_callG G hr hgd hm hk B ha hg hdb he hpl
theorem s_callPK {x : Str} {p : Pos} {kws : List Keyword} (h : PmK X.prog X.w X.K X.mg X.base x k n ps ks perm F) (hr : Room k X.A) (hp : perm.length = n) (hkn : ks.length = n) (ha : SndK X kws ms) (hg : Gl X x := by rfl) (hall : (backToKw pos (keywordEach kws X.env)).all (·.1.isSome) = true := by rfl) (hks : (backToKw pos (keywordEach kws X.env)).filterMap (·.1) = ks := by rfl)
    (hdb : (x == ("__debug__" : Str)) = false := by decide) (hpl : ((backTo pos (starEach [] X.env)).any (·.1) || (backToKw pos (keywordEach kws X.env)).any (·.1.isNone)) = false := by rfl) : Snd X (.Call (.Name x p) [] kws pos) (eCallK n perm F ms) := let ⟨_, _, hm, hk, G, B⟩ := h; s_callK G hr hm hk B hp hkn ha hg hall hks hdb hpl
theorem s_methP {c me : Str} {o : Expr} {mo : Rho → T D} {apos : Pos} {pl : Sem Bool} (h : PmM X.prog X.w X.K X.mg X.base c me k n ps F) (hr : Room k X.A) (ho : Snd X o mo) (ha : SndA X (e :: es) ms) (hst : starEach (e :: es) X.env = (false, eval e X.env) :: starEach es X.env := by rfl) (hpl : (backTo pos (starEach es X.env)).any (·.1) = false := by rfl)
    (ht : eval (.Call (.Attribute o me apos) (e :: es) [] pos) X.env = (do
      let ov ← eval o X.env
      standAt apos.atName
      let (f, first) ← holding [ov] (getMethod ov me pl)
      callWith pos f first (backTo pos (starEach (e :: es) X.env)) (backToKw pos (keywordEach [] X.env))) := by rfl) :
    Snd X (.Call (.Attribute o me apos) (e :: es) [] pos) (eMeth c me n F mo ms) := let ⟨_, _, _, at_, cl, hm, G, B⟩ := h; s_meth at_ cl hm G hr B ho ha hst hpl ht
theorem s_methP0 {c me : Str} {o : Expr} {mo : Rho → T D} {apos : Pos} {pl : Sem Bool} (h : PmM X.prog X.w X.K X.mg X.base c me k 0 ps F) (hr : Room k X.A) (ho : Snd X o mo)
    (ht : eval (.Call (.Attribute o me apos) [] [] pos) X.env = (do
      let ov ← eval o X.env
      standAt apos.atName
      let (f, first) ← holding [ov] (getMethod ov me pl)
      callWith pos f first (backTo pos (starEach [] X.env)) (backToKw pos (keywordEach [] X.env))) := by rfl) :
    Snd X (.Call (.Attribute o me apos) [] [] pos) (eMeth c me 0 F mo aNil) := let ⟨_, _, _, at_, cl, hm, G, B⟩ := h; s_meth0 at_ cl hm G hr B ho ht
theorem s_methPK {c me : Str} {o : Expr} {mo : Rho → T D} {apos : Pos} {pl : Sem Bool} {kws : List Keyword} (h : PmMK X.prog X.w X.K X.mg X.base c me k n ps ks perm F) (hr : Room k X.A) (hp : perm.length = n) (hkn : ks.length = n) (ho : Snd X o mo) (ha : SndK X kws ms) (hall : (backToKw pos (keywordEach kws X.env)).all (·.1.isSome) = true := by rfl) (hks : (backToKw pos (keywordEach kws X.env)).filterMap (·.1) = ks := by rfl)
    (hpl : ((backTo pos (starEach [] X.env)).any (·.1) || (backToKw pos (keywordEach kws X.env)).any (·.1.isNone)) = false := by rfl)
    (ht : eval (.Call (.Attribute o me apos) [] kws pos) X.env = (do
      let ov ← eval o X.env
      standAt apos.atName
      let (f, first) ← holding [ov] (getMethod ov me pl)
      callWith pos f first (backTo pos (starEach [] X.env)) (backToKw pos (keywordEach kws X.env))) := by rfl) :
    Snd X (.Call (.Attribute o me apos) [] kws pos) (eMethK c me n perm F mo ms) := let ⟨_, _, _, at_, cl, hm, G, B⟩ := h; s_methK at_ cl hm G hr B hp hkn ho ha hall hks hpl ht
theorem s_propP {c f : Str} (h : PmP X.prog X.w X.K X.mg X.base c f k F) (hr : Room (k + 1) X.A) (ho : Snd X e m) (hab : attributeBase e f X.env (eval e X.env) = eval e X.env := by rfl) : Snd X (.Attribute e f pos) (eProp c F m) :=
  let ⟨_, _, _, _, _, at_, cl, hp, G, B⟩ := h; s_prop at_ cl hp G hr B ho hab
theorem s_makeP {c : Str} {dds : List D} {F : List D → T (List (Str × D))} {p : Pos} (h : PmC X.prog X.w X.K X.mg X.base c k n dds F) (hr : Room (k + 1) X.A) (ha : SndA X (e :: es) ms) (hg : Gl X c := by rfl) (hdb : (c == ("__debug__" : Str)) = false := by decide) (he : starEach (e :: es) X.env = (false, eval e X.env) :: starEach es X.env := by rfl) (hpl : (backTo pos (starEach es X.env)).any (·.1) = false := by rfl) :
    Snd X (.Call (.Name c p) (e :: es) [] pos) (eMake c n dds F ms) := let ⟨_, _, _, _, _, _, M, at_, hm, G, B, hd, hdd⟩ := h; s_make M G hr hm at_ B hd hdd ha hg hdb he hpl
theorem s_makePK {c : Str} {F : List D → T (List (Str × D))} {p : Pos} {kws : List Keyword} (h : PmCK X.prog X.w X.K X.mg X.base c k n ks perm F) (hr : Room (k + 1) X.A) (hp : perm.length = n) (hkn : ks.length = n) (ha : SndK X kws ms) (hg : Gl X c := by rfl) (hall : (backToKw pos (keywordEach kws X.env)).all (·.1.isSome) = true := by rfl) (hks : (backToKw pos (keywordEach kws X.env)).filterMap (·.1) = ks := by rfl)
    (hdb : (c == ("__debug__" : Str)) = false := by decide) (hpl : ((backTo pos (starEach [] X.env)).any (·.1) || (backToKw pos (keywordEach kws X.env)).any (·.1.isNone)) = false := by rfl) : Snd X (.Call (.Name c p) [] kws pos) (eMakeK c n perm F ms) := let ⟨_, _, _, _, M, at_, hm, G, B⟩ := h; s_makeK M G hr hm at_ B hp hkn ha hg hall hks hdb hpl
theorem cs_strP {c : Str} {g : List D → T D} (h : PmT X.prog X.w X.K X.mg X.base c "__str__" k F) (hr : Room (k + 2) X.A) (h0 : CaSnd X (.type "str") g) : CaSnd X (.type "str") (txtC c F g) := let ⟨_, _, _, _, at_, O, G, B⟩ := h; txt_of at_ h0 (call_strC O G hr B)
theorem cs_reprP {c : Str} {g : List D → T D} (h : PmT X.prog X.w X.K X.mg X.base c "__repr__" k F) (hr : Room (k + 1) X.A) (h0 : CaSnd X (.builtin "repr") g) : CaSnd X (.builtin "repr") (txtC c F g) := let ⟨_, _, _, _, at_, O, G, B⟩ := h; txt_of at_ h0 (call_reprC O G hr B)
end
section
variable (P : Program) (w : World) (K : PySem.W.Frag) (mg : Str → Option Value) (base : Heap)
/-- the operator of the class, the instance on the left -/
def PmO (c : Str) (op : Operator) (k : Nat) (F : List D → T D) : Prop := ∃ (C a : Addr) (fd : FuncData) (ps : List Str), ClsAt K c C ∧ OwnOp K C op a ∧ FnOk P w K mg base CX0 k a fd ps (spD K P w 2 F) ∧ Binds K fd ps []
/-- .. on the right, an int on the left -/
def PmB (c : Str) (op : Operator) (k : Nat) (F : List D → T D) : Prop := ∃ (C a : Addr) (fd : FuncData) (ps : List Str), ClsAt K c C ∧ BackOp K C op a ∧ FnOk P w K mg base CX0 k a fd ps (spD K P w 2 F) ∧ Binds K fd ps []
def PmE (c : Str) (op : CmpOp) (k : Nat) (F : List D → T D) : Prop := ∃ (C a : Addr) (fd : FuncData) (ps : List Str), ClsAt K c C ∧ CmpOwn K C op a ∧ FnOk P w K mg base CX0 k a fd ps (spD K P w 2 F) ∧ Binds K fd ps []
def PmN (c : Str) (k : Nat) (F : List D → T D) : Prop := ∃ (C a : Addr) (fd : FuncData) (ps : List Str), ClsAt K c C ∧ PySem.W.findIn K (.ref C) "__neg__" = some (some (.ref a)) ∧ PySem.W.isFn K (.ref a) = true ∧ FnOk P w K mg base CX0 k a fd ps (spD K P w 1 F) ∧ Binds K fd ps []
end
section
variable {X : Cx} {e : Expr} {pos : Pos} {m : Rho → T D} {j k : Nat} {F R : List D → T D} {g : D → D → T D} {c : Str}
theorem os_anyP {op : Operator} (h0 : OpSnd X (binaryOp op) g) (h : PmO X.prog X.w X.K X.mg X.base c op k F) (hr : Room k X.A) (hb : PmB X.prog X.w X.K X.mg X.base c op j R) (dc : Declines op) (hr2 : Room j X.A) : OpSnd X (binaryOp op) (opAny c g F R) := by
  obtain ⟨C, a, fd, ps, at_, O, G, B⟩ := h
  obtain ⟨C2, b, rd, qs, at2, O2, GR, BR⟩ := hb
  have e := at_.one at2
  subst e
  exact os_any h0 at_ O G hr B O2 dc GR hr2 BR
theorem os_ownP {op : Operator} (h : PmO X.prog X.w X.K X.mg X.base c op k F) (hr : Room k X.A) : OpSnd X (binaryOp op) (opOwn c F) := let ⟨_, _, _, _, at_, O, G, B⟩ := h; os_own at_ O G hr B
theorem os_cmpP {op : CmpOp} (h0 : OpSnd X (compareOp op) g) (hop : op ≠ .Is ∧ op ≠ .IsNot ∧ op ≠ .In ∧ op ≠ .NotIn) (h : PmE X.prog X.w X.K X.mg X.base c op k F) (hr : Room k X.A) : OpSnd X (compareOp op) (cmpAny c g F) := let ⟨_, _, _, _, at_, O, G, B⟩ := h; os_cmpAny h0 hop at_ O G hr B
theorem s_negP (h : PmN X.prog X.w X.K X.mg X.base c k F) (hr : Room k X.A) (ha : Snd X e m) : Snd X (.UnaryOp .USub e pos) (eUn (uNegC c F) m) := let ⟨_, _, _, _, at_, hs, hf, G, B⟩ := h; s_negC at_ hs hf G hr B ha
end
section
variable (P : Program) (w : World) (K : PySem.W.Frag) (mg : Str → Option Value) (base : Heap)
/-- the class's own method, called on the class -/
def PmL (c m : Str) (k n : Nat) (F : List D → T D) : Prop := ∃ (C p g : Addr) (mc : Value), mg c = some (.ref C) ∧ ClX.CRead K C mc ∧ ClX.CMet K C mc m p g ∧ FnR P w K mg base CX0 k g (spC K P w C n F)
def PmLK (c m : Str) (k n : Nat) (ks : List Str) (perm : List Nat) (F : List D → T D) : Prop := ∃ (C p g : Addr) (mc : Value) (fd : FuncData) (ps : List Str), mg c = some (.ref C) ∧ ClX.CRead K C mc ∧ ClX.CMet K C mc m p g ∧ FnOk P w K mg base CX0 k g fd ps (spC K P w C n F) ∧ KBind1 K fd ps ks perm
end
section
variable {X : Cx} {e : Expr} {es : List Expr} {pos : Pos} {ms : Rho → T (List D)} {k n : Nat} {ks : List Str} {perm : List Nat} {F : List D → T D}
theorem s_clsP {c m : Str} {np apos : Pos} {pl : Sem Bool} (h : PmL X.prog X.w X.K X.mg X.base c m k n F) (hr : Room k X.A) (ha : SndA X (e :: es) ms) (hg : Gl X c := by rfl) (hdb : (c == ("__debug__" : Str)) = false := by decide) (hst : starEach (e :: es) X.env = (false, eval e X.env) :: starEach es X.env := by rfl) (hpl : (backTo pos (starEach es X.env)).any (·.1) = false := by rfl)
    (ht : eval (.Call (.Attribute (.Name c np) m apos) (e :: es) [] pos) X.env = (do
      let ov ← eval (.Name c np) X.env
      standAt apos.atName
      let (f, first) ← holding [ov] (getMethod ov m pl)
      callWith pos f first (backTo pos (starEach (e :: es) X.env)) (backToKw pos (keywordEach [] X.env))) := by rfl) :
    Snd X (.Call (.Attribute (.Name c np) m apos) (e :: es) [] pos) (eCall n F ms) := let ⟨_, _, _, _, at_, r, cm, G⟩ := h; s_cmeth at_ r cm G hr ha hg hdb hst hpl ht
theorem s_clsPK {c m : Str} {np apos : Pos} {pl : Sem Bool} {kws : List Keyword} (h : PmLK X.prog X.w X.K X.mg X.base c m k n ks perm F) (hr : Room k X.A) (hp : perm.length = n) (hkn : ks.length = n)
    (ha : SndK X kws ms) (hg : Gl X c := by rfl) (hdb : (c == ("__debug__" : Str)) = false := by decide) (hall : (backToKw pos (keywordEach kws X.env)).all (·.1.isSome) = true := by rfl) (hks : (backToKw pos (keywordEach kws X.env)).filterMap (·.1) = ks := by rfl)
    (hpl : ((backTo pos (starEach [] X.env)).any (·.1) || (backToKw pos (keywordEach kws X.env)).any (·.1.isNone)) = false := by rfl)
    (ht : eval (.Call (.Attribute (.Name c np) m apos) [] kws pos) X.env = (do
      let ov ← eval (.Name c np) X.env
      standAt apos.atName
      let (f, first) ← holding [ov] (getMethod ov m pl)
      callWith pos f first (backTo pos (starEach [] X.env)) (backToKw pos (keywordEach kws X.env))) := by rfl) :
    Snd X (.Call (.Attribute (.Name c np) m apos) [] kws pos) (eCallK n perm F ms) := let ⟨_, _, _, _, _, _, at_, r, cm, G, B⟩ := h; s_cmethK at_ r cm G hr B hp hkn ha hg hdb hall hks hpl ht
/-- f(), where no repr is under way -/
theorem s_callPG0 {x : Str} {p : Pos} (h : PmG X.prog X.w X.K X.mg X.base x k 0 [] F) (hr : Room k X.A) (hgd : X.A.guards = some []) (hg : Gl X x := by rfl) (hdb : (x == ("__debug__" : Str)) = false := by decide) : Snd X (.Call (.Name x p) [] [] pos) (eCall 0 F aNil) := fun {π N0 H0 N H σ ρ Q} I q => by
  obtain ⟨f, fd, hm, hk, G, B⟩ := h
  refine ⟨fun σ H Q => spD X.K X.prog X.w 0 F [] H Q E0, ⟨fun pins s σ H Q J q => ?_⟩, π, N, [], I.hn, .nil, rfl, q⟩
  refine wpAny_Call_Name_kw (ld_glob J hg hm ?_ hdb)
  refine PySem.W.callWith_K0 J.kIn hk ?_
  have b0 := B s [] J.kIn rfl
  show wpAny _ _ (call (.ref f) []) _ _ _
  refine wpAny_call (codeAny_mono (G.run X.A X.stack s H ⟨[], []⟩ [] [] Q E0 hr hgd J.env0 b0 .nil q) fun r s' hq => ?_)
  cases r with
  | error e => exact pass0 pins σ H s e s' J hq
  | ok fl =>
    cases fl with
    | ret u => exact J.after hq
    | next => exact False.elim hq
    | brk => exact False.elim hq
    | cont => exact False.elim hq
end
/-- all names unknown -/
theorem env_un {K : PySem.W.Frag} {P : Program} {w : World} {π : Addr} {N : Addr → Bool} {H : Hp} {σ : L2.St} {n : Nat} (hn : HN π N H) (hl : σ.length = n) : EnvOk K P w π N H N H σ (List.replicate n .un) := by
  have un : ∀ (i : Nat) (e : Ent), (List.replicate n Ent.un)[i]? = some e → e = .un := fun i e h => by
    rw [List.getElem?_replicate] at h
    split at h
    · cases h; rfl
    · cases h
  refine ⟨hn, .refl, fun _ h => h, fun _ h => .inl h, by rw [hl, List.length_replicate], fun i d h => ?_, fun i x h xo => ?_, fun i j e f l h1 h2 o1 o2 => ?_⟩
  · cases un i _ h
  · cases un i _ h; cases xo
  · cases un i _ h1; cases o1
end Pd

/-! repr of lists and tuples that hold instances: the instances' own texts are asked on the way. -/
namespace Pd
open PySem L2 PySem.Spec PyProof.Rows
/-- the state goes on, the tracked heap as data's -/
def Goes (X : Cx) (σ : L2.St) (π : Addr) (H0 : Hp) (pins : List (Addr × Obj)) (s : Shared) : Prop := ∃ H, Inv X pins σ H s ∧ Ex π H0 H
/-- the text of v, asked under way; as: the places that stand in it -/
def RpG (X : Cx) (σ : L2.St) (π : Addr) (H0 : Hp) (n : Nat) (as : List Addr) (v : Value) (t : Str) : Prop :=
  ∀ (b0 : Nat) (A : Around) (g : List Code) (pins : List (Addr × Obj)) (s : Shared) (E : Value → Shared → Prop) (Q : Str → Shared → Prop), b0 + t.length ≤ sizeLine → A.guards = some g → (∀ b ∈ as, Clear g b) → Room n A → A.frames = some X.stack →
    Goes X σ π H0 pins s → (∀ s', Goes X σ π H0 pins s' → Q t s') → wpAny (model X.prog X.w) A (pyReprUnder b0 v) Q E s
theorem RpG.mono {X : Cx} {σ : L2.St} {π : Addr} {H0 : Hp} {m n : Nat} {as : List Addr} {v : Value} {t : Str} (h : RpG X σ π H0 m as v t) (l : m ≤ n) : RpG X σ π H0 n as v t :=
  fun b0 A g pins s E Q hb hg hc hr => h b0 A g pins s E Q hb hg hc (hr.mono l)
theorem RpG.more {X : Cx} {σ : L2.St} {π : Addr} {H0 : Hp} {n : Nat} {as bs : List Addr} {v : Value} {t : Str} (h : RpG X σ π H0 n as v t) (l : ∀ b ∈ as, b ∈ bs) : RpG X σ π H0 n bs v t :=
  fun b0 A g pins s E Q hb hg hc => h b0 A g pins s E Q hb hg fun b z => hc b (l b z)
theorem room_under {n : Nat} {A : Around} {c : Code} (r : Room (n + 1) A) (hw : c.weight ≤ 3) (hu : c.cUnits ≤ 16) : Room n (A.under c) :=
  ⟨r.hd, by have := r.dp; show A.depth + c.weight + 3 * n + 5 < _; omega, by have := r.un; show A.units + c.cUnits + 16 * n + 200 < _; omega⟩
section
variable {X : Cx} {σ : L2.St} {π : Addr} {H0 : Hp} {n : Nat}
/-- what is no object -/
theorem RpG.leaf {v : Value} {t : Str} (h : ReprIs X.prog X.w v t) : RpG X σ π H0 n [] v t := fun b0 A g pins s E Q hb hg hc hr hf ⟨H, I, e⟩ hQ =>
  h b0 hb A E s Q fun tk => hQ _ ⟨H, I.tok tk, e⟩
/-- an instance with a repr of its own -/
theorem RpG.own {k : Nat} {C f a dx : Addr} {fd : FuncData} {ps : List Str} {F : List D → T D} {fv : List (Str × V)} {N : Addr → Bool} {d : D} {t : Str} (O : OwnTxt X.K C "__repr__" f) (G : FnOk X.prog X.w X.K X.mg X.base CX0 k f fd ps (spD X.K X.prog X.w 1 F)) (hb : Binds X.K fd ps [])
    (hn : HN π N H0) (ha : H0 a = some (.ins C dx fv)) (hp : a ≠ π) (r : Rv X.K X.prog X.w π (Hide N H0) (.ref a) d) (hF : F [d] = .ret (.str t)) : RpG X σ π H0 k [] (.ref a) t := fun b0 A g pins s E Q hz hg hc hr hf ⟨H, I, e⟩ hQ => by
  have ha' := e.kp a _ hp ha
  obtain ⟨mA, M, _, _, _, _⟩ := ins_get I.hok ha'
  obtain ⟨od, J, _⟩ := M.look
  have hA := I.kIn
  refine wpAny_pyReprUnder_ref (by omega) ?_
  unfold pyReprObjUnder pyReprObjBy
  refine wpAny_bind (wpAny_cRoomFor (by have := hr.un; omega) ?_)
  refine wpAny_bind (wpAny_bind (J.type.here ((PySem.W.looks_findIn hA O.at_).here ?_)))
  show wpAny _ _ (if (some (Value.ref f)).isNone = true then _ else _) _ _ _
  rw [if_neg (by simp)]
  have r1 : Rv X.K X.prog X.w π (Hide N H) (.ref a) d := r.mono e.kp.hide
  have call1 : wpAny (model X.prog X.w) A (call (.ref f) [.ref a]) (fun v s' => (∃ u, v = .str t u) ∧ Goes X σ π H0 pins s') E s := by
    refine wpAny_call (codeAny_mono (G.run A X.stack s H ⟨[.ref a], []⟩ [.ref a] [.ref a] (fun v H2 => v = .str t ∧ Ex π H0 H2) E0 hr ?_ (hb s [.ref a] hA (G.len _ H (fun _ _ => True) E0 ⟨π, N, [d], hn.ext e, .cons r1 .nil, rfl, by rw [hF]; exact fun _ _ _ _ => trivial⟩)) (.cons rfl .nil)
      ⟨π, N, [d], hn.ext e, .cons r1 .nil, rfl, by rw [hF]; exact fun v H' e2 rv => ⟨by cases rv; rfl, e.trans e2⟩⟩) fun r s' hq => ?_)
    · exact { I.env0 with frames := hf }
    · cases r with
      | error er => exact hq.elim
      | ok fl =>
        cases fl with
        | ret u =>
          obtain ⟨v, H', I3, rv, ev, q⟩ := I.after hq
          subst ev
          obtain ⟨tk, rfl⟩ := rv
          exact ⟨⟨tk, rfl⟩, H', I3, q⟩
        | next => exact False.elim hq
        | brk => exact False.elim hq
        | cont => exact False.elim hq
  have fin : wpAny (model X.prog X.w) A (call (.ref f) [.ref a] >>= fun v => pure (some v)) (fun r s' => ∃ u, r = some (Value.str t u) ∧ Goes X σ π H0 pins s') E s :=
    wpAny_bind (wpAny_mono call1 (fun v s' ⟨⟨u, hv⟩, q⟩ => wpAny_pure ⟨u, by rw [hv], q⟩) fun _ _ z => z)
  have by1 : wpAny (model X.prog X.w) A (callSpecialIfBoundBy? (fun g first => match reprUnder? g, first with | some twin, [self] => call twin [self, rawInt b0] | _, _ => call g (first ++ [])) (.ref a) (Str.ofString "__repr__"))
      (fun r s' => ∃ u, r = some (Value.str t u) ∧ Goes X σ π H0 pins s') E s := by
    simp only [callSpecialIfBoundBy?, bindSpecialIfBound?]
    refine wpAny_holding (wpAny_bind (wpAny_bind (wpAny_bind (J.type.here ((PySem.W.looks_findIn hA O.at_).here ?_)))))
    refine wpAny_bind (wpAny_askSetting (wpAny_ite ?_))
    split
    · exact wpAny_bind ((PySem.W.bind_fn hA _ (beq_iff_eq.mp O.fn)).here (wpAny_pure (by exact fin)))
    · exact wpAny_tryCatch (wpAny_bind ((PySem.W.bind_fn hA _ (beq_iff_eq.mp O.fn)).here (wpAny_pure (by exact fin))))
  refine wpAny_bind (wpAny_mono by1 (fun r s' ⟨u, hv, q⟩ => ?_) fun _ _ z => z)
  subst hv
  exact wpAny_bind (wpAny_isInstance (T := "str") (b := true) rfl isSubtype_str_str (wpAny_pure ⟨t, u, rfl, hQ _ q⟩))
end
end Pd

/-! repr of lists and tuples that hold instances: the loops. -/
namespace Pd
open PySem L2 PySem.Spec PyProof.Rows
open PySem.Builtin PySem.Builtin.List
/-- the list of texts under way -/
def partsObj (acc : Array Value) (c : Nat) : Obj := { cls := .type "list", dict := none, data := .seq acc c, slots := #[] }
theorem len_parts {acc : Array Value} {done : List (Str × Tok)} {ts : List Str} {i : Nat} (ha : acc.toList = strValues done) (hd : done.map (·.1) = ts.take i) : acc.size ≤ ts.length := by
  have e1 : acc.size = done.length := by rw [← Array.length_toList, ha]; simp [strValues]
  have e2 : done.length = (ts.take i).length := by rw [← hd, List.length_map]
  rw [e1, e2, List.length_take]
  omega
theorem le_piled {ts : List Str} {t : Str} (h : t ∈ ts) : t.length + 2 ≤ piled ts := by
  induction ts with
  | nil => cases h
  | cons x xs ih =>
    rw [piled_cons]
    rcases List.mem_cons.mp h with e | e
    · subst e; omega
    · have := ih e; omega
theorem w_list (args : Args) : (Code.builtin "list.__repr__.loop" args).weight ≤ 3 := by
  have c : (Code.builtin "list.__repr__.loop" args).isCreation = false := rfl
  have d : (Code.builtin "list.__repr__.loop" args).isCaller = false := rfl
  have f : (Code.builtin "list.__repr__.loop" args).frames = 0 := by first | rfl | simp [Code.frames, Code.isFrame]
  unfold Code.weight
  rw [c, d, f, isGuard_list_loop, if_neg (by decide), if_pos rfl, if_neg (by decide)]
  decide
theorem u_list (args : Args) : (Code.builtin "list.__repr__.loop" args).cUnits ≤ 16 := by
  have f : (Code.builtin "list.__repr__.loop" args).frames = 0 := by first | rfl | simp [Code.frames, Code.isFrame]
  show 1 + 3 * _ ≤ 16
  rw [f]
  decide
section
variable {X : Cx} {σ : L2.St} {π : Addr} {H0 : Hp} {n : Nat} {pins : List (Addr × Obj)}
/-- the parts get one more -/
theorem Goes.part {P : Addr} {o1 : Obj} {s : Shared} {f : Array Value → Array Value} {xs : Array Value} {c : Nat} (h : Goes X σ π H0 ((P, o1) :: pins) s) (ho : o1.data = .seq xs c) (hP1 : X.s_0.heap.objs.size ≤ P) (hP2 : ∀ x c, X.env.cells.lookup x = some c → c ≠ P) (hP3 : ∀ p ∈ X.pn ++ pins, p.1 ≠ P) (t' : Nat) :
    ∃ o2, (s.heap.update P (Obj.mapSeq f)).get? P = some o2 ∧ o2 = Obj.mapSeq f o1 ∧ Goes X σ π H0 ((P, o2) :: pins) { s with heap := s.heap.update P (Obj.mapSeq f), toks := t' } := by
  obtain ⟨H, I, e⟩ := h
  have q := I.pin (P, o1) (List.mem_append_right _ List.mem_cons_self)
  obtain ⟨q1, q2, q3, q4, q5⟩ := q
  have I1 := (ClX.unpin I).turned (t' := t') (it := P) (h' := s.heap.update P (Obj.mapSeq f)) (fun b o hb hs => (Heap.get?_update_other _ _ (fun z => hb z.symm)).trans hs) q2 q3 (.inr hP1) hP2 hP3
  have nf : (Obj.mapSeq f o1).isFreed = false := by
    unfold Obj.mapSeq
    cases o1
    cases ho
    rfl
  have e2 : (s.heap.update P (Obj.mapSeq f)).get? P = some (Obj.mapSeq f o1) := Heap.get?_update_self _ q1 nf
  have d2 : ∃ m, (Obj.mapSeq f o1).data = .seq (f xs) m := by
    cases o1
    cases ho
    exact ⟨_, rfl⟩
  refine ⟨_, e2, rfl, H, I1.pins_of fun p hp => ?_, e⟩
  rcases List.mem_cons.mp hp with z | z
  · subst z
    refine ⟨e2, q2, q3, q4, fun v hv => ?_⟩
    obtain ⟨m, d⟩ := d2
    rw [show (P, Obj.mapSeq f o1).2 = Obj.mapSeq f o1 from rfl, d] at hv
    cases hv
  · exact I1.pin p (List.mem_append_right _ z)
/-- the loop over a list's items -/
theorem list_loopG {a P : Addr} {xs : List V} {ts : List Str} {as : List Addr} {b0 : Nat} {A : Around} {g : List Code} {R : Result → Shared → Prop} (ha : H0 a = some (.lst xs)) (hap : a ≠ π) (hna : a ∉ as) (hg : A.guards = some g) (hcl : ∀ b ∈ as, Clear g b) (hr : Room (n + 1) A) (hf : A.frames = some X.stack)
    (hlen : ts.length = xs.length) (hT : ∀ (i : Nat) (x : V), xs[i]? = some x → ∃ t, ts[i]? = some t ∧ ∀ v, RelV x v → RpG X σ π H0 n as v t) (hsz : b0 + (listText ts).length ≤ sizeLine) (hP1 : X.s_0.heap.objs.size ≤ P) (hP2 : ∀ x c, X.env.cells.lookup x = some c → c ≠ P) (hP3 : ∀ p ∈ X.pn ++ pins, p.1 ≠ P)
    (hR : ∀ s' u, Goes X σ π H0 pins s' → R (.ok (.ret (.str (listText ts) u))) s') :
    ∀ (k i : Nat) (s : Shared) (acc : Array Value) (c : Nat) (done : List (Str × Tok)), xs.length - i = k → i ≤ xs.length → Goes X σ π H0 ((P, partsObj acc c) :: pins) s → acc.toList = strValues done → done.map (·.1) = ts.take i →
      codeAny (model X.prog X.w) A (.builtin "list.__repr__.loop" ⟨[.ref a, rawInt i, .ref P, rawInt ((b0 + piled (ts.take i) : Nat) : Int)], []⟩) R s := by
  have hp := piled_le_listText ts
  have hall : ∀ t ∈ ts, t.length + 2 ≤ piled ts := fun t ht => by
    exact le_piled ht
  intro k
  induction k with
  | zero =>
    intro i s acc c done hk hi ⟨H, I, e⟩ hacc hdone
    have hin : i = xs.length := by omega
    obtain ⟨its, rv, ⟨o, m, ho, _, _, hd⟩, hl⟩ := I.list (SqL.of (e.kp a _ hap ha))
    have hP := ClX.pin_at I
    refine codeAny_builtin F.entry_list_repr_loop ?_
    show wpAny _ _ («list.__repr__.loop» ⟨[.ref a, .int i 0, .ref P, .int ((b0 + piled (ts.take i) : Nat) : Int) 0], []⟩) _ _ s
    rw [repr_loop_tree]
    refine wpAny_bind (wpAny_listItems ho hd ?_)
    have h0 : its.toArray[(i : Int).toNat]? = none := by
      rw [Int.toNat_natCast, Array.getElem?_eq_none]
      rw [List.size_toArray, ← rv.length]
      omega
    simp only [h0]
    unfold reprEnd
    refine wpAny_bind (wpAny_listItems hP rfl ?_)
    rw [hacc, repr_fold, hdone, hin, ← hlen, List.take_length]
    refine wpAny_bind (wpAny_pure ?_)
    exact wpAny_bind (wpAny_mkStr (wpAny_pure (hR _ _ ⟨H, (ClX.unpin I).tok _, e⟩)) (by show (listText ts).length ≤ sizeLine; omega))
  | succ k ih =>
    intro i s acc c done hk hi G hacc hdone
    obtain ⟨H, I, e⟩ := id G
    have hlt : i < xs.length := by omega
    obtain ⟨t, ht, hrep⟩ := hT i xs[i] (List.getElem?_eq_getElem hlt)
    obtain ⟨its, rv, ⟨o, m, ho, _, _, hd⟩, hl⟩ := I.list (SqL.of (e.kp a _ hap ha))
    have hits : i < its.length := by rw [← rv.length]; exact hlt
    obtain ⟨x1, hx1, rx⟩ := rv.get (List.getElem?_eq_getElem hlt)
    obtain rfl : its[i] = x1 := Option.some.inj ((List.getElem?_eq_getElem hits).symm.trans hx1)
    have hp1 := piled_take_succ ht
    have hp2 := piled_take_le ts (i + 1)
    have ht2 := hall t (List.mem_of_getElem? ht)
    have hsa := len_parts hacc hdone
    refine codeAny_builtin F.entry_list_repr_loop ?_
    show wpAny _ _ («list.__repr__.loop» ⟨[.ref a, .int i 0, .ref P, .int ((b0 + piled (ts.take i) : Nat) : Int) 0], []⟩) _ _ s
    rw [repr_loop_tree]
    refine wpAny_bind (wpAny_listItems ho hd ?_)
    have h0 : its.toArray[(i : Int).toNat]? = some its[i] := by
      rw [Int.toNat_natCast, List.getElem?_toArray, List.getElem?_eq_getElem hits]
    simp only [h0]
    rw [Int.toNat_natCast]
    have gd := guards_under_guard (A := A) (isGuard_list_loop ⟨[.ref a, .int i 0, .ref P, .int ((b0 + piled (ts.take i) : Nat) : Int) 0], []⟩) hg
    refine wpAny_bind (wpAny_holding (hrep _ rx (b0 + piled (ts.take i) + 1) _ _ ((P, partsObj acc c) :: pins) s _ _ (by omega) gd (fun b hb => (hcl b hb).cons (a := a) fun z => hna (z ▸ hb)) (room_under hr (w_list _) (u_list _)) hf G fun s' G' => ?_))
    refine wpAny_bind (wpAny_mkStr ?_ (by omega))
    refine wpAny_bind ?_
    obtain ⟨H', I', e'⟩ := id G'
    refine wpAny_updateSeq (ClX.pin_at I') rfl (wpAny_pure ⟨F.quiet_list_repr_loop _, ?_⟩) (by omega)
    obtain ⟨o2, g2, eo, G2⟩ := G'.part (f := (·.push (.str t s'.toks))) rfl hP1 hP2 hP3 (s'.toks + 1)
    subst eo
    have e1 : ((i : Int) + 1) = ((i + 1 : Nat) : Int) := by omega
    have e2 : b0 + piled (ts.take i) + (t.length + 2) = b0 + piled (ts.take (i + 1)) := by omega
    rw [e1, e2]
    exact ih (i + 1) _ (acc.push (.str t s'.toks)) _ (done ++ [(t, s'.toks)]) (by omega) hlt G2 (by simp [hacc, strValues]) (by simp [List.take_add_one, ht, hdone])
end
end Pd

/-! repr of lists and tuples that hold instances: the wholes. -/
namespace Pd
open PySem L2 PySem.Spec PyProof.Rows
open PySem.Builtin PySem.Builtin.List
/-- the texts of the items -/
def Txs (X : Cx) (σ : L2.St) (π : Addr) (H0 : Hp) (n : Nat) (as : List Addr) (xs : List V) (ts : List Str) : Prop :=
  ts.length = xs.length ∧ ∀ (i : Nat) (x : V), xs[i]? = some x → ∃ t, ts[i]? = some t ∧ ∀ v, RelV x v → RpG X σ π H0 n as v t
section
variable {X : Cx} {σ : L2.St} {π : Addr} {H0 : Hp} {n : Nat} {pins : List (Addr × Obj)}
/-- how a text's run ends -/
abbrev FinR (X : Cx) (A : Around) (R : Result → Shared → Prop) : Fin → Shared → Prop := fun fin s' => match fin with
  | .done f => R (.ok f) s'
  | .again c' => c'.quiet = true ∧ codeAny (model X.prog X.w) A c' R s'
theorem list_atG {a : Addr} {xs : List V} {ts : List Str} {as : List Addr} {b0 : Nat} {A : Around} {g : List Code} {R : Result → Shared → Prop} {s : Shared} (ha : H0 a = some (.lst xs)) (hap : a ≠ π) (hna : a ∉ as) (hx : xs ≠ []) (hg : A.guards = some g) (hcl : ∀ b ∈ a :: as, Clear g b) (hr : Room (n + 1) A) (hf : A.frames = some X.stack)
    (hT : Txs X σ π H0 n as xs ts) (hsz : b0 + (listText ts).length ≤ sizeLine) (G : Goes X σ π H0 pins s) (hR : ∀ s' u, Goes X σ π H0 pins s' → R (.ok (.ret (.str (listText ts) u))) s') :
    wpAny (model X.prog X.w) A.in1 (Builtin.listReprAt b0 ⟨[.ref a], []⟩) (FinR X A R) (fun e s' => R (.error e) s') s := by
  obtain ⟨H, I, e⟩ := G
  obtain ⟨its, rv, ⟨o, m, ho, _, _, hd⟩, hl⟩ := I.list (SqL.of (e.kp a _ hap ha))
  cases its with
  | nil =>
    cases rv
    exact absurd rfl hx
  | cons y ys =>
    refine wpAny_list_repr_head (A := A.in1) hg (fun v rest kw hm => listSameRef_of_ne (hcl a (.head _) _ _ _ _ hm)) ho hd ?_
    refine wpAny_bind (m := newList []) (wpAny_newObj_type ?_)
    refine wpAny_pure ⟨F.quiet_list_repr_loop _, ?_⟩
    have IP : Inv X ((s.heap.objs.size, partsObj #[] 0) :: pins) σ H { s with heap := s.heap.push (partsObj #[] 0) } := ClX.pin_new (t' := s.toks) I (fun b u z => Heap.get?_push_of_some _ z) (Nat.le_refl _) (Heap.get?_push_size _ rfl) (fun v z => by cases z)
    refine list_loopG (P := s.heap.objs.size) (pins := pins) ha hap hna hg (fun b hb => hcl b (.tail _ hb)) hr hf hT.1 hT.2 hsz I.sz (fun x c z => ?_) (fun p hp z => ?_) hR _ 0 _ #[] _ [] rfl (Nat.zero_le _) ⟨H, IP, e⟩ rfl (by simp)
    · obtain ⟨v, o, q, _⟩ := I.cell x c z
      exact Nat.ne_of_lt (Heap.lt_size q)
    · have q := (I.pin p hp).1
      exact Nat.ne_of_lt (Heap.lt_size q) z
theorem RpG.list {a : Addr} {xs : List V} {ts : List Str} {as : List Addr} (ha : H0 a = some (.lst xs)) (hap : a ≠ π) (hna : a ∉ as) (hT : Txs X σ π H0 n as xs ts) : RpG X σ π H0 (n + 1) (a :: as) (.ref a) (listText ts) := fun b0 A g pins s E Q hb hg hcl hr hf G hQ => by
  obtain ⟨H, I, e⟩ := _root_.id G
  obtain ⟨its, rv, ⟨o, m, ho, hc, _, hd⟩, hl⟩ := I.list (SqL.of (e.kp a _ hap ha))
  have hu := hr.un
  refine wpAny_pyReprUnder_ref (by omega) ?_
  by_cases hx : xs = []
  · subst hx
    cases rv
    have ht : ts = [] := List.length_eq_zero_iff.mp hT.1
    subst ht
    exact wpAny_pyReprObjUnder_list_empty ⟨o, ho, hc⟩ (by omega) ho hd ⟨_, _, rfl, hQ _ ⟨H, I.tok _, e⟩⟩
  · refine wpAny_pyReprObjUnder_twin (twin := "list.__repr__.under") ⟨o, ho, hc⟩ F.slot_list_repr.toG rfl (by omega) ?_
    exact call_twin_plain F.plain_list_repr_under F.entry_list_repr_under F.check_list_repr_under ⟨o, ho, hc⟩ F.slot_list_repr.toG (F.args_list_repr_1 _)
      (list_atG (pins := pins) (R := callEnd (fun v s' => (∃ x u, v = .str x u) ∧ ∃ x u, v = .str x u ∧ Q x s') E) ha hap hna hx hg hcl hr hf hT hb G fun s' u G' => ⟨⟨_, _, rfl⟩, _, _, rfl, hQ _ G'⟩)
theorem call_listG {a : Addr} {xs : List V} {ts : List Str} {as : List Addr} {A : Around} {E : Value → Shared → Prop} {Q : Value → Shared → Prop} {s : Shared} (ha : H0 a = some (.lst xs)) (hap : a ≠ π) (hna : a ∉ as) (hT : Txs X σ π H0 n as xs ts) (hg : A.guards = some []) (hr : Room (n + 2) A) (hf : A.frames = some X.stack)
    (hsz : (listText ts).length ≤ sizeLine) (G : Goes X σ π H0 pins s) (hQ : ∀ s' u, Goes X σ π H0 pins s' → Q (.str (listText ts) u) s') : wpAny (model X.prog X.w) A (call (.builtin "repr") [.ref a]) Q E s := by
  obtain ⟨H, I, e⟩ := _root_.id G
  obtain ⟨its, rv, ⟨o, m, ho, hc, _, hd⟩, hl⟩ := I.list (SqL.of (e.kp a _ hap ha))
  have hu := hr.un
  refine call_repr_slot (by omega) ⟨o, ho, hc⟩ F.slot_list_repr.toG ?_
  by_cases hx : xs = []
  · subst hx
    cases rv
    have ht : ts = [] := List.length_eq_zero_iff.mp hT.1
    subst ht
    exact call_list_repr_empty ⟨o, ho, hc⟩ ho hd ⟨_, _, rfl, hQ _ _ ⟨H, I.tok _, e⟩⟩
  · exact wpAny_call (codeAny_call_builtin F.slot_list_repr.plain F.entry_list_repr (F.slot_list_repr.check _ _ _ _ _ _ _ _ ⟨o, ho, hc⟩ (F.args_list_repr_1 _)
      (list_atG (A := A.in1) (pins := pins) (b0 := 0) (R := callEnd (fun v s' => ∃ x u, v = .str x u ∧ Q v s') E) ha hap hna hx hg (fun b _ => Clear.nil b) hr.in1 hf hT (by omega) G fun s' u G' => ⟨_, _, rfl, hQ _ _ G'⟩)))
/-- the fold over a tuple's items -/
theorem tup_foldG {as : List Addr} {A : Around} {g : List Code} {E : Value → Shared → Prop} (hg : A.guards = some g) (hcl : ∀ b ∈ as, Clear g b) (hr : Room n A) (hf : A.frames = some X.stack) :
    ∀ (its : List Value) (ts : List Str) (acc : Array Str) (m : Nat) (s : Shared) (Q : Array Str × Nat → Shared → Prop), ts.length = its.length → (∀ (i : Nat) (v : Value), its[i]? = some v → ∃ t, ts[i]? = some t ∧ RpG X σ π H0 n as v t) → m + piled ts ≤ sizeLine → Goes X σ π H0 pins s →
      (∀ s', Goes X σ π H0 pins s' → Q (acc ++ ts.toArray, m + piled ts) s') → wpAny (model X.prog X.w) A (forIn its ((acc, m) : Array Str × Nat) tupBody) Q E s
  | [], ts, acc, m, s, Q, hl, _, _, G, hQ => by
    have ht : ts = [] := List.length_eq_zero_iff.mp hl
    subst ht
    rw [List.forIn_nil]
    refine wpAny_pure ?_
    have z := hQ s G
    rw [show acc ++ ([] : List Str).toArray = acc by simp, piled_nil] at z
    exact z
  | y :: its, [], acc, m, s, Q, hl, _, _, G, hQ => by cases hl
  | y :: its, t :: ts, acc, m, s, Q, hl, hT, hz, G, hQ => by
    rw [piled_cons] at hz
    rw [List.forIn_cons]
    obtain ⟨t1, e1, r1⟩ := hT 0 y rfl
    obtain rfl : t = t1 := Option.some.inj e1
    refine wpAny_bind (wpAny_bind (r1 (m + 1) A g pins s E _ (by omega) hg hcl hr hf G fun s' G' => wpAny_pure ?_))
    refine tup_foldG hg hcl hr hf its ts (acc.push t) (m + (t.length + 2)) s' Q (Nat.succ.inj hl) (fun i v h => hT (i + 1) v h) (by omega) G' fun s2 G2 => ?_
    have z := hQ s2 G2
    rw [piled_cons] at z
    rw [show acc.push t ++ ts.toArray = acc ++ (t :: ts).toArray by simp, show m + (t.length + 2) + piled ts = m + (t.length + 2 + piled ts) by omega]
    exact z
theorem w_tup {id : String} (args : Args) (hi : id = "tuple.__repr__" ∨ id = "tuple.__repr__.under") : (Code.builtin id args).weight ≤ 3 ∧ (Code.builtin id args).cUnits ≤ 16 := by
  have f : (Code.builtin id args).frames = 0 := by rcases hi with rfl | rfl <;> first | rfl | simp [Code.frames, Code.isFrame]
  refine ⟨?_, by show 1 + 3 * _ ≤ 16; rw [f]; decide⟩
  have c : (Code.builtin id args).isCreation = false := by rcases hi with rfl | rfl <;> rfl
  have d : (Code.builtin id args).isCaller = false := by rcases hi with rfl | rfl <;> rfl
  have q : (Code.builtin id args).isGuard = true := by
    rcases hi with rfl | rfl
    · exact isGuard_tuple_repr args
    · exact isGuard_tuple_repr_under args
  unfold Code.weight
  rw [c, d, f, q, if_neg (by decide), if_pos rfl, if_neg (by decide)]
  decide
theorem tup_atG {a : Addr} {xs : List V} {ts : List Str} {as : List Addr} {b0 : Nat} {id : String} {rest : List Value} {A : Around} {g : List Code} {R : Result → Shared → Prop} {s : Shared} (hi : id = "tuple.__repr__" ∨ id = "tuple.__repr__.under") (hS : ∀ H, Ex π H0 H → SqT X.K H a xs) (hna : a ∉ as) (hg : A.guards = some g) (hcl : ∀ b ∈ a :: as, Clear g b) (hr : Room (n + 1) A) (hf : A.frames = some X.stack)
    (hT : Txs X σ π H0 n as xs ts) (hsz : b0 + (tupleText ts).length ≤ sizeLine) (G : Goes X σ π H0 pins s) (hR : ∀ s' u, Goes X σ π H0 pins s' → R (.ok (.ret (.str (tupleText ts) u))) s') :
    wpOwn (model X.prog X.w) A (.builtin id ⟨.ref a :: rest, []⟩) (Builtin.tupleReprAt b0 ⟨[.ref a], []⟩) (FinR X A R) (fun e s' => R (.error e) s') s := by
  obtain ⟨H, I, e⟩ := _root_.id G
  obtain ⟨its, rv, ⟨o, ho, hc, m, hd⟩, hl⟩ := I.tuple (hS H e)
  have hlen : ts.length = its.length := hT.1.trans rv.length
  have hp := piled_le_tupleText ts
  have hsz2 : (tupleText ts).length ≤ sizeLine := by omega
  have wu := w_tup (id := id) ⟨.ref a :: rest, []⟩ hi
  have hgd : (Code.builtin id ⟨.ref a :: rest, []⟩).isGuard = true := by
    rcases hi with rfl | rfl
    · exact isGuard_tuple_repr _
    · exact isGuard_tuple_repr_under _
  rw [tuple_repr_tree, tupleReprUnderWay_eq]
  refine wpOwn_bind (wpOwn_stackTailAny hg (tupGuardF_off _) (tupGuardF_pos _) ?_)
  have off : (g.any fun c => tupGuardF (.ref a) (c, default)) = false := List.any_eq_false.mpr fun c hm => by
    rw [tupGuardF_of_clear (hcl a (.head _)) c hm]
    exact Bool.false_ne_true
  rw [off]
  refine wpOwn_of_wpAny ?_
  show wpAny _ _ (tupleReprRest b0 (.ref a)) _ _ s
  unfold tupleReprRest Builtin.Tuple.tupleItemsOf
  refine wpAny_bind (wpAny_bind (wpAny_seqItems ho hd (wpAny_pure ?_)))
  rw [← Array.forIn_toList]
  refine wpAny_bind (tup_foldG (pins := pins) (guards_under_guard hgd hg) (fun b hb => (hcl b (.tail _ hb)).cons (a := a) fun z => hna (z ▸ hb)) (room_under hr wu.1 wu.2) hf _ ts _ _ _ _ (by simpa using hlen) (fun i v h => ?_) (by omega) G fun s' G' => ?_)
  · have h' : its[i]? = some v := by simpa using h
    have hi2 : i < its.length := (List.getElem?_eq_some_iff.mp h').1
    have hx : i < xs.length := by rw [rv.length]; exact hi2
    obtain ⟨t, ht, q⟩ := hT.2 i xs[i] (List.getElem?_eq_getElem hx)
    obtain ⟨v1, e1, rx⟩ := rv.get (List.getElem?_eq_getElem hx)
    obtain rfl : v = v1 := Option.some.inj (h'.symm.trans e1)
    exact ⟨t, ht, q v rx⟩
  · obtain ⟨H', I', e'⟩ := G'
    refine wpAny_bind (wpAny_mkStr (wpAny_pure ?_) (by simpa [tupleText, hlen] using hsz2))
    have z := hR { s' with toks := s'.toks + 1 } s'.toks ⟨H', I'.tok _, e'⟩
    simpa [tupleText, hlen] using z
theorem RpG.tup {a : Addr} {xs : List V} {ts : List Str} {as : List Addr} (hS : ∀ H, Ex π H0 H → SqT X.K H a xs) (hna : a ∉ as) (hT : Txs X σ π H0 n as xs ts) : RpG X σ π H0 (n + 1) (a :: as) (.ref a) (tupleText ts) := fun b0 A g pins s E Q hb hg hcl hr hf G hQ => by
  obtain ⟨H, I, e⟩ := _root_.id G
  obtain ⟨its, rv, ⟨o, ho, hc, m, hd⟩, hl⟩ := I.tuple (hS H e)
  have hu := hr.un
  refine wpAny_pyReprUnder_ref (by omega) ?_
  refine wpAny_pyReprObjUnder_twin (twin := "tuple.__repr__.under") ⟨o, ho, hc⟩ F.slot_tuple_repr rfl (by omega) ?_
  exact call_twin_own (F.quiet_tuple_repr_under _) F.entry_tuple_repr_under F.check_tuple_repr_under ⟨o, ho, hc⟩ F.slot_tuple_repr (F.args_tuple_repr_1 _)
    (tup_atG (pins := pins) (R := callEnd (fun v s' => (∃ x u, v = .str x u) ∧ ∃ x u, v = .str x u ∧ Q x s') E) (.inr rfl) hS hna hg hcl hr hf hT hb G fun s' u G' => ⟨⟨_, _, rfl⟩, _, _, rfl, hQ _ G'⟩)
theorem call_tupG {a : Addr} {xs : List V} {ts : List Str} {as : List Addr} {A : Around} {E : Value → Shared → Prop} {Q : Value → Shared → Prop} {s : Shared} (hS : ∀ H, Ex π H0 H → SqT X.K H a xs) (hna : a ∉ as) (hT : Txs X σ π H0 n as xs ts) (hg : A.guards = some []) (hr : Room (n + 2) A) (hf : A.frames = some X.stack)
    (hsz : (tupleText ts).length ≤ sizeLine) (G : Goes X σ π H0 pins s) (hQ : ∀ s' u, Goes X σ π H0 pins s' → Q (.str (tupleText ts) u) s') : wpAny (model X.prog X.w) A (call (.builtin "repr") [.ref a]) Q E s := by
  obtain ⟨H, I, e⟩ := _root_.id G
  obtain ⟨its, rv, ⟨o, ho, hc, m, hd⟩, hl⟩ := I.tuple (hS H e)
  have hu := hr.un
  refine call_repr_slot (by omega) ⟨o, ho, hc⟩ F.slot_tuple_repr ?_
  exact wpAny_call (codeAny_call_builtin_own (Code.quiet_builtin _ (by decide +kernel)) F.entry_tuple_repr (F.slot_tuple_repr.check _ _ _ _ _ _ _ _ ⟨o, ho, hc⟩ (F.args_tuple_repr_1 _)
    (tup_atG (A := A.in1) (pins := pins) (b0 := 0) (R := callEnd (fun v s' => ∃ x u, v = .str x u ∧ Q v s') E) (.inl rfl) hS hna hg (fun b _ => Clear.nil b) hr.in1 hf hT (by omega) G fun s' u G' => ⟨_, _, rfl, hQ _ _ G'⟩)))
end
end Pd

/-! repr of data that hold instances, by the data alone. -/
namespace Pd
open PySem L2 PySem.Spec PyProof.Rows
mutual
def D.hgt : D → Nat
  | .tup ds => D.hgts ds + 1
  | .lst ds => D.hgts ds + 1
  | .non => 0
  | .bl _ => 0
  | .int _ => 0
  | .str _ => 0
  | .dic _ => 0
  | .pot => 0
  | .ins _ _ => 0
def D.hgts : List D → Nat
  | [] => 0
  | d :: ds => max (D.hgt d) (D.hgts ds)
end
mutual
/-- the text; R: an instance's -/
def D.tx (R : D → Option Str) : D → Option Str
  | .non => some "None"
  | .bl b => some (if b then "True" else "False")
  | .int i => if i.natAbs.log2 < 1920 then some (toString i : String) else none
  | .str x => if (reprText x).length ≤ sizeLine then some (reprText x) else none
  | .tup ds => match D.txs R ds with
    | some ts => some (tupleText ts)
    | none => none
  | .lst ds => match D.txs R ds with
    | some ts => some (listText ts)
    | none => none
  | .dic kvs => if kvs.isEmpty then some "{}" else none
  | .pot => none
  | .ins c fs => R (.ins c fs)
def D.txs (R : D → Option Str) : List D → Option (List Str)
  | [] => some []
  | d :: ds => match D.tx R d with
    | none => none
    | some t => match D.txs R ds with
      | none => none
      | some ts => some (t :: ts)
end
/-- constant tuples stand apart -/
structure Apart (K : PySem.W.Frag) (π : Addr) (H : Hp) : Prop where
  inj : ∀ (a : Addr) (xs ys : List V), (∀ H', SqT K H' a xs) → (∀ H', SqT K H' a ys) → xs = ys
  off : ∀ (a : Addr) (xs : List V), (∀ H', SqT K H' a xs) → H a = none
  pot : ∀ (xs : List V), ¬ ∀ H', SqT K H' π xs
theorem txs_cons {R : D → Option Str} {d : D} {ds : List D} {ts : List Str} (h : D.txs R (d :: ds) = some ts) : ∃ t us, ts = t :: us ∧ D.tx R d = some t ∧ D.txs R ds = some us := by
  unfold D.txs at h
  split at h
  · cases h
  · rename_i t ht
    split at h
    · cases h
    · rename_i us hu
      cases h
      exact ⟨_, _, rfl, ht, hu⟩
theorem tx_tup {R : D → Option Str} {ds : List D} {t : Str} (h : D.tx R (.tup ds) = some t) : ∃ ts, D.txs R ds = some ts ∧ t = tupleText ts := by
  unfold D.tx at h
  split at h
  · rename_i ts hs
    cases h
    exact ⟨_, hs, rfl⟩
  · cases h
theorem tx_lst {R : D → Option Str} {ds : List D} {t : Str} (h : D.tx R (.lst ds) = some t) : ∃ ts, D.txs R ds = some ts ∧ t = listText ts := by
  unfold D.tx at h
  split at h
  · rename_i ts hs
    cases h
    exact ⟨_, hs, rfl⟩
  · cases h
theorem tx_dic {R : D → Option Str} {kvs : List (D × D)} {t : Str} (h : D.tx R (.dic kvs) = some t) : kvs = [] ∧ t = "{}" := by
  unfold D.tx at h
  split at h
  · rename_i e
    cases h
    exact ⟨List.isEmpty_iff.mp e, rfl⟩
  · cases h
section
variable {K : PySem.W.Frag} {P : Program} {w : World} {π : Addr} {H : Hp} {R : D → Option Str}
mutual
theorem hgt_same (f : Apart K π H) : ∀ {d d' : D} {v : V} {t : Str}, D.tx R d = some t → Rv K P w π H v d → Rv K P w π H v d' → D.hgt d' = D.hgt d
  | .non, d', v, t, h, r, r' => by cases r; cases r'; rfl
  | .bl _, d', v, t, h, r, r' => by cases r; cases r'; rfl
  | .int _, d', v, t, h, r, r' => by cases r; cases r'; rfl
  | .str _, d', v, t, h, r, r' => by cases r; cases r'; rfl
  | .dic _, d', v, t, h, r, r' => by
    cases r with
    | dic e n _ => cases r' with
      | tup e' n' l' => rw [e] at e'; cases e'
      | tupK e' l' => rw [f.off _ _ e'] at e; cases e
      | lst e' n' l' => rw [e] at e'; cases e'
      | dic e' n' l' => rfl
      | pot => exact absurd rfl n
      | ins c' e' n' fs' => rfl
  | .pot, d', v, t, h, r, r' => by cases h
  | .ins _ _, d', v, t, h, r, r' => by
    cases r with
    | ins c e n fs => cases r' with
      | tup e' n' l' => rw [e] at e'; cases e'
      | tupK e' l' => rw [f.off _ _ e'] at e; cases e
      | lst e' n' l' => rw [e] at e'; cases e'
      | dic e' n' l' => rfl
      | pot => exact absurd rfl n
      | ins c' e' n' fs' => rfl
  | .lst ds, d', v, t, h, r, r' => by
    obtain ⟨ts, hs, _⟩ := tx_lst h
    cases r with
    | lst e n l => cases r' with
      | tup e' n' l' => rw [e] at e'; cases e'
      | tupK e' l' => rw [f.off _ _ e'] at e; cases e
      | lst e' n' l' =>
        rw [e] at e'
        cases e'
        exact congrArg Nat.succ (hgts_same f hs l l')
      | dic e' n' l' => rw [e] at e'; cases e'
      | pot => exact absurd rfl n
      | ins c' e' n' fs' => rw [e] at e'; cases e'
  | .tup ds, d', v, t, h, r, r' => by
    obtain ⟨ts, hs, _⟩ := tx_tup h
    cases r with
    | tup e n l => cases r' with
      | tup e' n' l' =>
        rw [e] at e'
        cases e'
        exact congrArg Nat.succ (hgts_same f hs l l')
      | tupK e' l' => rw [f.off _ _ e'] at e; cases e
      | lst e' n' l' => rw [e] at e'; cases e'
      | dic e' n' l' => rw [e] at e'; cases e'
      | pot => exact absurd rfl n
      | ins c' e' n' fs' => rw [e] at e'; cases e'
    | tupK e l => cases r' with
      | tup e' n' l' => rw [f.off _ _ e] at e'; cases e'
      | tupK e' l' =>
        have z := f.inj _ _ _ e e'
        subst z
        exact congrArg Nat.succ (hgts_same f hs l l')
      | lst e' n' l' => rw [f.off _ _ e] at e'; cases e'
      | dic e' n' l' => rw [f.off _ _ e] at e'; cases e'
      | pot => exact absurd e (f.pot _)
      | ins c' e' n' fs' => rw [f.off _ _ e] at e'; cases e'
theorem hgts_same (f : Apart K π H) : ∀ {ds ds' : List D} {vs : List V} {ts : List Str}, D.txs R ds = some ts → RvL K P w π H vs ds → RvL K P w π H vs ds' → D.hgts ds' = D.hgts ds
  | [], ds', vs, ts, h, r, r' => by cases r; cases r'; rfl
  | d :: ds, ds', vs, ts, h, r, r' => by
    obtain ⟨t, us, _, h1, h2⟩ := txs_cons h
    cases r with
    | cons r l => cases r' with
      | cons r' l' =>
        show max _ _ = max _ _
        rw [hgt_same f h1 r r', hgts_same f h2 l l']
end
end
section
variable {X : Cx} {σ : L2.St} {π : Addr} {H0 : Hp} {N : Addr → Bool} {pins : List (Addr × Obj)}
theorem Apart.of {s : Shared} {H : Hp} (I : Inv X pins σ H s) (hp : PotOk H π) : Apart X.K π (Hide N H) := by
  have none : ∀ (a : Addr) (xs : List V), (∀ H', SqT X.K H' a xs) → H a = none := fun a xs h => by
    rcases h (fun _ => Option.none) with z | ⟨o, its, n, hk, _⟩
    · rcases z with z | ⟨o, z⟩ <;> cases z
    · exact (I.bs a o (I.ok.mod.kin a o hk)).2
  refine ⟨fun a xs ys h h' => I.tuple_inj (h H) (h' H), fun a xs h => ?_, fun xs h => ?_⟩
  · unfold Hide
    split
    · rfl
    · exact none a xs h
  · obtain ⟨x, y, e, _⟩ := hp
    rw [none π xs h] at e
    cases e
/-- {} -/
theorem RpG.dict0 {n : Nat} {a : Addr} {od : Obj} (ha : H0 a = some (.frz od (DN X.prog X.w a []))) (hap : a ≠ π) : RpG X σ π H0 n [a] (.ref a) "{}" := fun b0 A g pins s E Q hb hg hcl hr hf ⟨H, I, e⟩ hQ => by
  obtain ⟨sys, _, zs, pr, o, es, ep, h1, h2, h3, h4, _⟩ := dn_of (xs := []) I (.inr ⟨od, e.kp a _ hap ha⟩) ⟨π, fun _ => false, [], .nil⟩
  have hz : es = #[] := by
    have q : zs = [] := by cases pr; rfl
    subst q
    exact Array.toList_eq_nil_iff.mp h4
  subst hz
  have hu := hr.un
  exact (ReprK.dict (prog := X.prog) (w := X.w) (as := []) (h₀ := s.heap) (d := 0) h1 h2.1 h3 sys (fun z => nomatch z) .nil) b0 hb A g E s _ hg hcl (by omega) (fun _ _ z => z) fun h' tk hk => hQ _ ⟨H, I.kept (t' := tk) hk, e⟩
/-- an instance's text by its own method -/
def TxOk (X : Cx) (k : Nat) (R : D → Option Str) : Prop := ∀ (c : Str) (fs : List (Str × D)) (t : Str), R (.ins c fs) = some t → ∃ (C f : Addr) (fd : FuncData) (ps : List Str) (F : List D → T D), ClsAt X.K c C ∧ OwnTxt X.K C "__repr__" f ∧ FnOk X.prog X.w X.K X.mg X.base CX0 k f fd ps (spD X.K X.prog X.w 1 F) ∧ Binds X.K fd ps [] ∧ F [.ins c fs] = .ret (.str t)
/-- the places under way, all of things of no greater height -/
def Low (X : Cx) (π : Addr) (H : Hp) (R : D → Option Str) (m : Nat) (as : List Addr) : Prop := ∀ b ∈ as, ∃ d, Rv X.K X.prog X.w π H (.ref b) d ∧ (∃ t, D.tx R d = some t) ∧ D.hgt d ≤ m
theorem low_nil {π : Addr} {H : Hp} {R : D → Option Str} {m : Nat} : Low X π H R m [] := fun _ z => (List.not_mem_nil z).elim
mutual
theorem tx_run {k : Nat} {R : D → Option Str} (hR : TxOk X k R) (hn : HN π N H0) (f : Apart X.K π (Hide N H0)) : ∀ {d : D} {v : V} {t : Str}, D.tx R d = some t → Rv X.K X.prog X.w π (Hide N H0) v d → ∃ as, Low X π (Hide N H0) R (D.hgt d) as ∧ ∀ u, RelV v u → RpG X σ π H0 (k + D.hgt d) as u t
  | .non, v, t, h, r => by
    cases r; cases h
    exact ⟨[], low_nil, fun u ru => by cases ru; exact .leaf .none⟩
  | .bl b, v, t, h, r => by
    cases r; cases h
    exact ⟨[], low_nil, fun u ru => by cases ru; exact .leaf (.bool b)⟩
  | .int i, v, t, h, r => by
    cases r
    unfold D.tx at h
    split at h
    · rename_i hi
      cases h
      exact ⟨[], low_nil, fun u ru => by obtain ⟨tk, rfl⟩ := ru; exact .leaf (.int tk hi)⟩
    · cases h
  | .str x, v, t, h, r => by
    cases r
    unfold D.tx at h
    split at h
    · rename_i hx
      cases h
      exact ⟨[], low_nil, fun u ru => by obtain ⟨tk, rfl⟩ := ru; exact .leaf (.str x tk hx)⟩
    · cases h
  | .dic _, v, t, h, r => by
    obtain ⟨rfl, rfl⟩ := tx_dic h
    have r0 := r
    cases r with
    | dic e n l =>
      cases l
      exact ⟨[_], fun b hb => by obtain rfl := List.mem_singleton.mp hb; exact ⟨_, r0, ⟨_, h⟩, Nat.le_refl _⟩, fun u ru => by cases ru; exact .dict0 (hide_some e).2 n⟩
  | .pot, v, t, h, r => by cases h
  | .ins c fs, v, t, h, r => by
    obtain ⟨C, fa, fd, ps, F, at_, O, G, B, hF⟩ := hR c fs t h
    have r0 := r
    cases r with
    | ins hc e n fs' =>
      have ec := at_.one hc
      subst ec
      exact ⟨[], low_nil, fun u ru => by cases ru; exact (RpG.own O G B hn (hide_some e).2 n r0 hF).mono (Nat.le_add_right _ _)⟩
  | .lst ds, v, t, h, r => by
    obtain ⟨ts, hs, rfl⟩ := tx_lst h
    have r0 := r
    cases r with
    | lst e n l =>
      rename_i a vs
      obtain ⟨as, lo, T⟩ := txs_run hR hn f hs l
      refine ⟨a :: as, fun b hb => ?_, fun u ru => by
        cases ru
        refine RpG.list (hide_some e).2 n (fun z => ?_) T
        obtain ⟨d', r', ⟨t', h'⟩, l'⟩ := lo a z
        have q := hgt_same f h r0 r'
        rw [q] at l'
        exact absurd l' (Nat.not_succ_le_self _)⟩
      rcases List.mem_cons.mp hb with z | z
      · subst z
        exact ⟨_, r0, ⟨_, h⟩, Nat.le_refl _⟩
      · obtain ⟨d', r', h', l'⟩ := lo b z
        exact ⟨d', r', h', Nat.le_succ_of_le l'⟩
  | .tup ds, v, t, h, r => by
    obtain ⟨ts, hs, rfl⟩ := tx_tup h
    have go : ∀ (a : Addr) (vs : List V), v = .ref a → (∀ H, Ex π H0 H → SqT X.K H a vs) → RvL X.K X.prog X.w π (Hide N H0) vs ds → ∃ as, Low X π (Hide N H0) R (D.hgt (.tup ds)) as ∧ ∀ u, RelV v u → RpG X σ π H0 (k + D.hgt (.tup ds)) as u (tupleText ts) := fun a vs ev hS l => by
      subst ev
      obtain ⟨as, lo, T⟩ := txs_run hR hn f hs l
      refine ⟨a :: as, fun b hb => ?_, fun u ru => by
        cases ru
        refine RpG.tup hS (fun z => ?_) T
        obtain ⟨d', r', ⟨t', h'⟩, l'⟩ := lo a z
        have q := hgt_same f h r r'
        rw [q] at l'
        exact absurd l' (Nat.not_succ_le_self _)⟩
      rcases List.mem_cons.mp hb with z | z
      · subst z
        exact ⟨_, r, ⟨_, h⟩, Nat.le_refl _⟩
      · obtain ⟨d', r', h', l'⟩ := lo b z
        exact ⟨d', r', h', Nat.le_succ_of_le l'⟩
    cases r with
    | tup e n l => exact go _ _ rfl (fun H x => .of (x.kp _ _ n (hide_some e).2)) l
    | tupK e l => exact go _ _ rfl (fun H _ => e H) l
theorem txs_run {k : Nat} {R : D → Option Str} (hR : TxOk X k R) (hn : HN π N H0) (f : Apart X.K π (Hide N H0)) : ∀ {ds : List D} {vs : List V} {ts : List Str}, D.txs R ds = some ts → RvL X.K X.prog X.w π (Hide N H0) vs ds → ∃ as, Low X π (Hide N H0) R (D.hgts ds) as ∧ Txs X σ π H0 (k + D.hgts ds) as vs ts
  | [], vs, ts, h, r => by
    cases r; cases h
    exact ⟨[], low_nil, rfl, fun i x z => by simp at z⟩
  | d :: ds, vs, ts, h, r => by
    obtain ⟨t, us, rfl, h1, h2⟩ := txs_cons h
    cases r with
    | cons r l =>
      obtain ⟨as, lo, T⟩ := tx_run hR hn f h1 r
      obtain ⟨bs, lo2, T2⟩ := txs_run hR hn f h2 l
      have m1 : D.hgt d ≤ D.hgts (d :: ds) := Nat.le_max_left _ _
      have m2 : D.hgts ds ≤ D.hgts (d :: ds) := Nat.le_max_right _ _
      refine ⟨as ++ bs, fun b hb => ?_, congrArg Nat.succ T2.1, fun i x z => ?_⟩
      · rcases List.mem_append.mp hb with z | z
        · obtain ⟨d', r', h', l'⟩ := lo b z
          exact ⟨d', r', h', Nat.le_trans l' m1⟩
        · obtain ⟨d', r', h', l'⟩ := lo2 b z
          exact ⟨d', r', h', Nat.le_trans l' m2⟩
      · cases i with
        | zero =>
          cases z
          exact ⟨t, rfl, fun v rv => ((T v rv).mono (Nat.add_le_add_left m1 k)).more fun b hb => List.mem_append_left _ hb⟩
        | succ i =>
          obtain ⟨t', ht, q⟩ := T2.2 i x z
          exact ⟨t', ht, fun v rv => ((q v rv).mono (Nat.add_le_add_left m2 k)).more fun b hb => List.mem_append_right _ hb⟩
end
end
/-! the built-in repr -/
def isSq : D → Bool
  | .tup _ => true
  | .lst _ => true
  | _ => false
/-- repr(d) -/
def bReprR (R : D → Option Str) : List D → T D
  | [d] => match D.tx R d with
    | some t => cond (decide (D.hgt d ≤ 6) && decide (t.length ≤ 100000)) (.ret (.str t)) .fail
    | none => .fail
  | _ => .fail
section
variable {X : Cx} {k : Nat} {R : D → Option Str}
theorem cs_reprR (hR : TxOk X k R) (hg : X.A.guards = some []) (hr : Room (k + 8) X.A) : CaSnd X (.builtin "repr") (bReprR R) := fun {π N H xs ds Q} hn r h => by
  unfold bReprR at h
  split at h
  · rename_i d
    split at h
    · rename_i t ht
      obtain ⟨hb, h⟩ := cond_all h
      simp only [Bool.and_eq_true, decide_eq_true_eq] at hb
      obtain ⟨b2, b3⟩ := hb
      cases r with
      | cons r tl =>
      cases tl
      have hsz : t.length ≤ sizeLine := Nat.le_trans b3 (by decide)
      refine ⟨fun ys H' Q => ys = [_] ∧ H' = H ∧ ∀ H2, Ex π H H2 → Q (.str t) H2, ?_, rfl, rfl, fun H2 e => h _ _ e (.str _)⟩
      intro pins s σ H1 ys vs Q I rvs q
      obtain ⟨rfl, rfl, hq⟩ := q
      obtain ⟨v, rfl, rx⟩ := vals1 rvs
      have hu := hr.un
      have f : Apart X.K π (Hide N H1) := Apart.of I hn.pot
      have G : Goes X σ π H1 pins s := ⟨H1, I, Ex.refl hn.pot⟩
      have fin : ∀ s' u, Goes X σ π H1 pins s' → EP X pins σ Q (.str t u) s' := fun s' u ⟨H', I', e'⟩ => ⟨.str t, H', I', ⟨u, rfl⟩, hq _ e'⟩
      have tok : ∀ tk, EP X pins σ Q (.str t s.toks) { s with toks := tk } := fun tk => fin _ _ ⟨H1, I.tok tk, Ex.refl hn.pot⟩
      cases d with
      | non => cases r; cases rx; cases ht; exact P.repr_of_none (tok _)
      | bl b => cases r; cases rx; cases ht; exact P.repr_of_bool (by cases b <;> exact tok _)
      | int i =>
        cases r
        obtain ⟨tk, rfl⟩ := rx
        unfold D.tx at ht
        split at ht
        · rename_i hi
          cases ht
          exact P.repr_of_int hi (tok _)
        · cases ht
      | str x =>
        cases r
        obtain ⟨tk, rfl⟩ := rx
        unfold D.tx at ht
        split at ht
        · rename_i hx
          cases ht
          exact P.repr_of_str (tok _) hx
        · cases ht
      | pot => cases ht
      | dic kvs =>
        obtain ⟨rfl, rfl⟩ := tx_dic ht
        cases r with
        | dic e n l =>
          cases l
          cases rx
          obtain ⟨sys, _, zs, pr, o, es, ep, h1, h2, h3, h4, _⟩ := dn_of (xs := []) I (.inr ⟨_, (hide_some e).2⟩) ⟨π, fun _ => false, [], .nil⟩
          have hz : es = #[] := by
            have q : zs = [] := by cases pr; rfl
            subst q
            exact Array.toList_eq_nil_iff.mp h4
          subst hz
          exact call_repr_slot (by omega) ⟨o, h1, h2.1⟩ F.slot_dict_repr (call_dict_reprK (as := []) (h₀ := s.heap) (d := 0) (ps := []) (g := []) h1 h2.1 h3 sys (fun z => nomatch z) .nil hg (fun b _ => Clear.nil b) (by show X.A.units + 1 + (0 + 1) < cLine; omega) (fun _ _ z => z) (fun h' u tk hk => ⟨_, _, rfl, fin _ _ ⟨H1, I.kept (t' := tk) hk, Ex.refl hn.pot⟩⟩) hsz)
      | ins c fs =>
        obtain ⟨C, fa, fd, ps, F, at_, O, G2, B, hF⟩ := hR c fs t ht
        have r0 := r
        cases r with
        | ins hc e n fs' =>
          have ec := at_.one hc
          subst ec
          cases rx
          have ha := (hide_some e).2
          obtain ⟨mA, M, _, _, _, _⟩ := ins_get I.hok ha
          obtain ⟨od, J, _⟩ := M.look
          obtain ⟨m, Fr0⟩ := I.fr
          have sp : ∀ (Q : VK) (E : XK), (∀ v H2, v = .str t → Ex π H1 H2 → Q v H2) → spD X.K X.prog X.w 1 F [.ref _] H1 Q E := fun Q E h => ⟨π, N, [_], hn, .cons r0 .nil, rfl, by rw [hF]; exact fun v H' e2 rv => h v H' (by cases rv; rfl) e2⟩
          refine PySem.W.repr_K (by show X.A.units + 1 < cLine; omega) Fr0 I.ok.mod.kin J O.at_ O.fn (wpAny_call (codeAny_mono (G2.run X.A.in1 X.stack s H1 ⟨[.ref _], []⟩ [.ref _] [.ref _] (fun v H2 => v = .str t ∧ Ex π H1 H2) E0 (hr.mono (by omega : k + 1 ≤ k + 8)).in1 I.env0.in1 (B s [.ref _] I.kIn (G2.len _ H1 (fun _ _ => True) E0 (sp _ _ fun _ _ _ _ => trivial))) (.cons rfl .nil) (sp _ _ fun v H2 z1 z2 => ⟨z1, z2⟩)) fun r s' hq2 => ?_))
          cases r with
          | error er => exact hq2.elim
          | ok fl =>
            cases fl with
            | ret u =>
              obtain ⟨v, H', I3, rv, ev, q⟩ := I.after hq2
              subst ev
              obtain ⟨tk, rfl⟩ := rv
              exact fin _ _ ⟨H', I3, q⟩
            | next => exact False.elim hq2
            | brk => exact False.elim hq2
            | cont => exact False.elim hq2
      | lst ds =>
        obtain ⟨ts, hs, rfl⟩ := tx_lst ht
        have r0 := r
        cases r with
        | lst e n l =>
          obtain ⟨as, lo, T⟩ := txs_run (σ := σ) hR hn f hs l
          cases rx
          refine call_listG (n := k + D.hgts ds) (hide_some e).2 n (fun z => ?_) T hg (hr.mono ?_) I.env0.frames hsz G fin
          · obtain ⟨d', r', ⟨t', h'⟩, l'⟩ := lo _ z
            have q := hgt_same f ht r0 r'
            rw [q] at l'
            exact absurd l' (Nat.not_succ_le_self _)
          · have : D.hgts ds + 1 ≤ 6 := b2
            omega
      | tup ds =>
        obtain ⟨ts, hs, rfl⟩ := tx_tup ht
        have go : ∀ (a : Addr) (vs : List V), v = .ref a → Rv X.K X.prog X.w π (Hide N H1) (.ref a) (.tup ds) → (∀ H, Ex π H1 H → SqT X.K H a vs) → RvL X.K X.prog X.w π (Hide N H1) vs ds → wpAny (model X.prog X.w) X.A (call (.builtin "repr") [v]) (EP X pins σ Q) X.xe s := fun a vs ev r0 hS l => by
          subst ev
          obtain ⟨as, lo, T⟩ := txs_run (σ := σ) hR hn f hs l
          refine call_tupG (n := k + D.hgts ds) hS (fun z => ?_) T hg (hr.mono ?_) I.env0.frames hsz G fin
          · obtain ⟨d', r', ⟨t', h'⟩, l'⟩ := lo _ z
            have q := hgt_same f ht r0 r'
            rw [q] at l'
            exact absurd l' (Nat.not_succ_le_self _)
          · have : D.hgts ds + 1 ≤ 6 := b2
            omega
        have r0 := r
        cases r with
        | tup e n l => cases rx; exact go _ _ rfl r0 (fun H x => .of (x.kp _ _ n (hide_some e).2)) l
        | tupK e l => cases rx; exact go _ _ rfl r0 (fun H _ => e H) l
    · exact False.elim h
  · exact False.elim h
end
end Pd

/-! == and != of lists and tuples that hold instances, != of instances: where the two are alike. -/
namespace Pd
open PySem L2 PySem.Spec PyProof.Rows
section
variable {prog : Program} {w : World} {A : Around} {R : Result → Shared → Prop}
open AutoSeq1 (wpAny_loadPart')
open MeetsSeq MeetsSeq2 MeetsSeq3 SeqRoads2
open SeqAt
/-- all items alike: != says False -/
theorem ne_turns (l b : Addr) (N : Nat) (J : Nat → Shared → Prop) (hJ : GQ.ListI prog w A (fun e s' => R (.error e) s') l b N J) (done : ∀ s, J N s → R (.ok (.ret (.bool false))) s) :
    ∀ (k i : Nat), N - i = k → i ≤ N → ∀ s, J i s → wpAny (model prog w) A.in1 (Builtin.«list.__eq__.loop» ⟨[.ref l, .ref b, rawInt i, rawInt 3], []⟩) (GQ.FinOf prog w A R) (fun e s' => R (.error e) s') s := by
  intro k
  induction k with
  | zero =>
    intro i hk hi s j
    obtain ⟨xs, ys, m, m2, g1, g2, z1, z2, _⟩ := hJ _ _ j
    obtain rfl : i = N := by omega
    have q := done s j
    obtain ⟨hp, gs, dr, tk, o⟩ := s
    wp_walk using wpAny_loadPart' g1, wpAny_loadPart' g2
    have n1 : xs[((i : Nat) : Int).toNat]? = none := by simp; omega
    have n2 : ys[((i : Nat) : Int).toNat]? = none := by simp; omega
    rw [n1, n2]
    wp_walk using wpAny_loadPart' g1, wpAny_loadPart' g2
    show R (.ok (.ret (.bool (xs.size != ys.size)))) _
    rw [z1, z2]
    simpa using q
  | succ k ih =>
    intro i hk hi s j
    obtain ⟨xs, ys, m, m2, g1, g2, z1, z2, one⟩ := hJ _ _ j
    have b1 : i < xs.size := by omega
    have b2 : i < ys.size := by omega
    have turn := one b1 b2
    obtain ⟨hp, gs, dr, tk, o⟩ := s
    wp_walk using wpAny_loadPart' g1, wpAny_loadPart' g2
    have n1 : xs[((i : Nat) : Int).toNat]? = some xs[i] := by simp [b1]
    have n2 : ys[((i : Nat) : Int).toNat]? = some ys[i] := by simp [b2]
    have nx : ((i : Int) + 1) = ((i + 1 : Nat) : Int) := by omega
    rw [n1, n2]
    refine wpAny_bind (wpAny_mono turn (fun r s2 z => ?_) fun _ _ z => z)
    obtain ⟨er, z⟩ := z
    subst er
    have rest := ih (i + 1) (by omega) (by omega) s2 z
    obtain ⟨hp2, gs2, dr2, tk2, o2⟩ := s2
    wp_walk
    rw [nx]
    exact ⟨plainId_quiet plain_eq_loop _, codeAny_builtin entry_eq_loop (by rw [Around.under_plainId plain_eq_loop _]; exact rest)⟩
theorem ne_lists (l b : Addr) (N : Nat) (J : Nat → Shared → Prop) (hJ : GQ.ListI prog w A (fun e s' => R (.error e) s') l b N J) (done : ∀ s, J N s → R (.ok (.ret (.bool false))) s) {s : Shared} (j : J 0 s) :
    wpAny (model prog w) A.in1 (Builtin.«list.__ne__» ⟨[.ref l, .ref b], []⟩) (GQ.FinOf prog w A R) (fun e s' => R (.error e) s') s := by
  obtain ⟨xs, ys, m, m2, g1, g2, z1, z2, _⟩ := hJ _ _ j
  have rest := ne_turns (A := A) (R := R) l b N J hJ done _ 0 rfl (Nat.zero_le _) s j
  obtain ⟨hp, gs, dr, tk, o⟩ := s
  have f3 := AutoSeq1.sub_list_list
  have same : ¬ (xs.size != ys.size) = true := by simp [z1, z2]
  wp_walk using wpAny_loadPart' g1, wpAny_loadPart' g2
  exact ⟨plainId_quiet plain_eq_loop _, codeAny_builtin entry_eq_loop (by rw [Around.under_plainId plain_eq_loop _]; exact rest)⟩
theorem ne_tups (l b : Addr) (xs ys : Array Value) (m m2 : Nat) (d1 d2 : Option Addr) (sl sl2 : Array (Option Value)) (hz : xs.size = ys.size) (J : Nat → Shared → Prop)
    (turn : ∀ i (b1 : i < xs.size) (b2 : i < ys.size) s, J i s → wpAny (model prog w) A.in1 (eqBool xs[i] ys[i]) (fun r s' => r = true ∧ J (i + 1) s') (fun e s' => R (.error e) s') s) (done : ∀ s, J xs.size s → R (.ok (.ret (.bool false))) s)
    {s : Shared} (g1 : s.heap.get? l = some { cls := .type "tuple", dict := d1, data := .seq xs m, slots := sl }) (g2 : s.heap.get? b = some { cls := .type "tuple", dict := d2, data := .seq ys m2, slots := sl2 }) (j : J 0 s) :
    wpAny (model prog w) A.in1 (Builtin.«tuple.__ne__» ⟨[.ref l, .ref b], []⟩) (GQ.FinOf prog w A R) (fun e s' => R (.error e) s') s := by
  have f2 := AutoSeq1.sub_tuple_tuple
  have zl : (xs.toList.zip ys.toList).length = xs.size := by simp [hz]
  have j0 := j
  obtain ⟨hp, gs, dr, tk, o⟩ := s
  wp_walk using wpAny_loadPart' g1, wpAny_loadPart' g2, wpAny_forIn_list _ (fun rest q s' => q.1 = none ∧ ∃ i, rest = (xs.toList.zip ys.toList).drop i ∧ i ≤ xs.size ∧ J i s') _
  case turn =>
    rintro ⟨y, x⟩ rest q s' ⟨q1, i, hr, hi, ji⟩
    have lt : i < (xs.toList.zip ys.toList).length := by
      rcases Nat.lt_or_ge i (xs.toList.zip ys.toList).length with z | z
      · exact z
      · rw [List.drop_of_length_le z] at hr; cases hr
    have b1 : i < xs.size := zl ▸ lt
    have b2 : i < ys.size := hz ▸ b1
    rw [List.drop_eq_getElem_cons lt] at hr
    injection hr with hyx hrest
    have ey : y = xs[i] := by have := congrArg Prod.fst hyx; simpa using this
    have ex : x = ys[i] := by have := congrArg Prod.snd hyx; simpa using this
    subst ey ex
    refine wpAny_bind (wpAny_mono (turn i b1 b2 s' ji) (fun r s2 z => ?_) fun _ _ z => z)
    obtain ⟨er, z⟩ := z
    subst er
    wp_walk
    exact ⟨rfl, i + 1, hrest, b1, z⟩
  case fin =>
    rintro ⟨q1, q2⟩ s' ⟨q0, i, hr, hi, ji⟩
    simp only at q0
    subst q0
    have ge : xs.size ≤ i := by
      rcases Nat.lt_or_ge i (xs.toList.zip ys.toList).length with z | z
      · rw [List.drop_eq_getElem_cons z] at hr; cases hr
      · exact zl ▸ z
    obtain rfl : i = xs.size := by omega
    have q := done s' ji
    wp_walk
    simpa [Builtin.Tuple.tupleCompareSizes, hz] using q
  case h => exact ⟨rfl, 0, rfl, Nat.zero_le _, j0⟩
end
section
variable {prog : Program} {w : World} {A : Around} {E : Value → Shared → Prop} {s : Shared}
theorem rcn_lists {l b : Addr} {N : Nat} {Q : Value → Shared → Prop} (hu : A.units < cLine) (J : Nat → Shared → Prop) (hJ : GQ.ListI prog w A E l b N J) (done : ∀ s, J N s → Q (.bool false) s) (j : J 0 s) : wpAny (model prog w) A (richCompare .NotEq (.ref l) (.ref b)) Q E s := by
  obtain ⟨xs, ys, m, m2, g1, g2, _, _, _⟩ := hJ _ _ j
  refine wpAny_richCompare_same_room (op := .NotEq) ⟨_, g1, rfl⟩ ⟨_, g2, rfl⟩ F.slot_list_ne (GQ.call_here F.slot_list_ne ⟨_, g1, rfl⟩ F.entry_list_ne (F.args_list_ne_2 _ _) ?_) hu
  exact ne_lists (R := wants (fun v s' => v ≠ .notImplemented ∧ Q v s') E) l b N J hJ (fun s' q => ⟨(fun x => nomatch x), done s' q⟩) j
theorem rcn_tups {l b : Addr} {xs ys : Array Value} {Q : Value → Shared → Prop} (hz : xs.size = ys.size) (hu : A.units < cLine) (J : Nat → Shared → Prop) (hl : s.heap.IsTuple l xs) (hb : s.heap.IsTuple b ys)
    (turn : ∀ i (b1 : i < xs.size) (b2 : i < ys.size) s, J i s → wpAny (model prog w) A.in1 (eqBool xs[i] ys[i]) (fun r s' => r = true ∧ J (i + 1) s') E s) (done : ∀ s, J xs.size s → Q (.bool false) s) (j : J 0 s) : wpAny (model prog w) A (richCompare .NotEq (.ref l) (.ref b)) Q E s := by
  obtain ⟨⟨c1, d1, t1, sl⟩, g1, hc, m, hd⟩ := id hl
  obtain ⟨⟨c2, d2, t2, sl2⟩, g2, hc2, m2, hd2⟩ := id hb
  simp only at hc hd hc2 hd2
  subst hc hd hc2 hd2
  refine wpAny_richCompare_same_room (op := .NotEq) ⟨_, g1, rfl⟩ ⟨_, g2, rfl⟩ F.slot_tuple_ne (GQ.call_here F.slot_tuple_ne ⟨_, g1, rfl⟩ F.entry_tuple_ne (F.args_tuple_ne_2 _ _) ?_) hu
  exact ne_tups (R := wants (fun v s' => v ≠ .notImplemented ∧ Q v s') E) l b xs ys m m2 d1 d2 sl sl2 hz J turn (fun s' q => ⟨(fun x => nomatch x), done s' q⟩) g1 g2 j
end
end Pd

/-! == of data that hold instances, by the data alone. -/
namespace Pd
open PySem L2 PySem.Spec PyProof.Rows
/-- u == v gives True, asked under way -/
def EqW (X : Cx) (σ : L2.St) (π : Addr) (H0 : Hp) (n : Nat) (u v : Value) : Prop :=
  ∀ (A : Around) (pins : List (Addr × Obj)) (s : Shared) (E : Value → Shared → Prop) (Q : Bool → Shared → Prop), Room n A → A.frames = some X.stack → Goes X σ π H0 pins s → (∀ s', Goes X σ π H0 pins s' → Q true s') → wpAny (model X.prog X.w) A (eqBool u v) Q E s
/-- the rich comparison says b -/
def RcW (X : Cx) (σ : L2.St) (π : Addr) (H0 : Hp) (n : Nat) (op : CmpOp) (b : Bool) (u v : Value) : Prop :=
  ∀ (A : Around) (pins : List (Addr × Obj)) (s : Shared) (E : Value → Shared → Prop) (Q : Value → Shared → Prop), Room n A → A.frames = some X.stack → Goes X σ π H0 pins s → (∀ s', Goes X σ π H0 pins s' → Q (.bool b) s') → wpAny (model X.prog X.w) A (richCompare op u v) Q E s
/-- the items are alike, one by one -/
def EqsW (X : Cx) (σ : L2.St) (π : Addr) (H0 : Hp) (n : Nat) (xs ys : List V) : Prop :=
  xs.length = ys.length ∧ ∀ (i : Nat) (x y : V), xs[i]? = some x → ys[i]? = some y → ∀ u v, RelV x u → RelV y v → EqW X σ π H0 n u v
section
variable {X : Cx} {σ : L2.St} {π : Addr} {H0 : Hp} {n : Nat}
theorem EqW.mono {m n : Nat} {u v : Value} (h : EqW X σ π H0 m u v) (l : m ≤ n) : EqW X σ π H0 n u v := fun A pins s E Q hr => h A pins s E Q (hr.mono l)
theorem room_units {A : Around} (hr : Room n A) : A.units + 1 < cLine := by have := hr.un; omega
theorem RcW.eq {a b : Addr} (h : RcW X σ π H0 n .Eq true (.ref a) (.ref b)) : EqW X σ π H0 n (.ref a) (.ref b) := fun A pins s E Q hr hf G hQ => by
  by_cases e : a = b
  · subst e
    exact SeqAt.EqAt.same (A := A) (s := s) (.ref a) X.prog X.w E _ (hQ s G)
  · exact GQ.eqBool_refG e (h A pins s E _ hr hf G fun s' G' => ⟨true, rfl, hQ s' G'⟩)
theorem EqW.flat {x y : V} {u v : Value} (rx : RelV x u) (ry : RelV y v) (fx : flatV x = true) (fy : flatV y = true) (e : eqV x y = true) : EqW X σ π H0 n u v := fun A pins s E Q hr hf G hQ => by
  have q := eqAt_V (A := A) (s := s) rx ry fx fy
  rw [e] at q
  exact q X.prog X.w E _ (hQ s G)
/-- one turn of a loop over two runs of items -/
theorem EqsW.turn {xs ys : List V} {its its2 : List Value} {A : Around} {pins : List (Addr × Obj)} {E : Value → Shared → Prop} (T : EqsW X σ π H0 n xs ys) (hr : Room (n + 1) A) (hf : A.frames = some X.stack) (r : Vals xs its) (r2 : Vals ys its2) (i : Nat) (b1 : i < its.toArray.size) (b2 : i < its2.toArray.size) (s : Shared) (G : Goes X σ π H0 pins s) :
    wpAny (model X.prog X.w) A.in1 (eqBool its.toArray[i] its2.toArray[i]) (fun r s' => r = true ∧ Goes X σ π H0 pins s') E s := by
  have c1 : i < its.length := by simpa using b1
  have c2 : i < its2.length := by simpa using b2
  have k1 : i < xs.length := by rw [r.length]; exact c1
  have k2 : i < ys.length := by rw [r2.length]; exact c2
  obtain ⟨u, hu, ru⟩ := r.get (List.getElem?_eq_getElem k1)
  obtain ⟨v, hv, rv⟩ := r2.get (List.getElem?_eq_getElem k2)
  have e1 : its.toArray[i] = u := by
    have z : its[i]? = some its[i] := List.getElem?_eq_getElem c1
    rw [z] at hu
    simpa using Option.some.inj hu
  have e2 : its2.toArray[i] = v := by
    have z : its2[i]? = some its2[i] := List.getElem?_eq_getElem c2
    rw [z] at hv
    simpa using Option.some.inj hv
  rw [e1, e2]
  exact T.2 i _ _ (List.getElem?_eq_getElem k1) (List.getElem?_eq_getElem k2) u v ru rv A.in1 pins s E _ hr.in1 hf G fun s' G' => ⟨rfl, G'⟩
theorem listI_of {a b : Addr} {xs ys : List V} {A : Around} {pins : List (Addr × Obj)} {E : Value → Shared → Prop} (ha : H0 a = some (.lst xs)) (hap : a ≠ π) (hb : H0 b = some (.lst ys)) (hbp : b ≠ π) (T : EqsW X σ π H0 n xs ys) (hr : Room (n + 1) A) (hf : A.frames = some X.stack) :
    GQ.ListI X.prog X.w A E a b xs.length fun _ s => Goes X σ π H0 pins s := fun i s G => by
  obtain ⟨H, I, e⟩ := id G
  obtain ⟨z, its, m, r, g⟩ := I.hok a _ (e.kp a _ hap ha)
  obtain ⟨z2, its2, m2, r2, g2⟩ := I.hok b _ (e.kp b _ hbp hb)
  exact ⟨its.toArray, its2.toArray, m, m2, g, g2, by rw [List.size_toArray, ← r.length], by rw [List.size_toArray, ← r2.length, ← T.1], fun b1 b2 => T.turn hr hf r r2 i b1 b2 s G⟩
theorem RcW.list {a b : Addr} {xs ys : List V} (ha : H0 a = some (.lst xs)) (hap : a ≠ π) (hb : H0 b = some (.lst ys)) (hbp : b ≠ π) (T : EqsW X σ π H0 n xs ys) : RcW X σ π H0 (n + 1) .Eq true (.ref a) (.ref b) := fun A pins s E Q hr hf G hQ =>
  GQ.rc_listG (N := xs.length) (Nat.lt_of_succ_lt (room_units hr)) (fun _ s => Goes X σ π H0 pins s) (listI_of ha hap hb hbp T hr hf) (fun s' G' => hQ s' G') G
theorem RcW.listN {a b : Addr} {xs ys : List V} (ha : H0 a = some (.lst xs)) (hap : a ≠ π) (hb : H0 b = some (.lst ys)) (hbp : b ≠ π) (T : EqsW X σ π H0 n xs ys) : RcW X σ π H0 (n + 1) .NotEq false (.ref a) (.ref b) := fun A pins s E Q hr hf G hQ =>
  rcn_lists (N := xs.length) (Nat.lt_of_succ_lt (room_units hr)) (fun _ s => Goes X σ π H0 pins s) (listI_of ha hap hb hbp T hr hf) (fun s' G' => hQ s' G') G
theorem RcW.tup {a b : Addr} {xs ys : List V} (hS : ∀ H, Ex π H0 H → SqT X.K H a xs) (hS2 : ∀ H, Ex π H0 H → SqT X.K H b ys) (T : EqsW X σ π H0 n xs ys) : RcW X σ π H0 (n + 1) .Eq true (.ref a) (.ref b) := fun A pins s E Q hr hf G hQ => by
  obtain ⟨H, I, e⟩ := id G
  obtain ⟨its, r, g, _⟩ := I.tuple (hS H e)
  obtain ⟨its2, r2, g2, _⟩ := I.tuple (hS2 H e)
  have hz : its.toArray.size = its2.toArray.size := by rw [List.size_toArray, List.size_toArray, ← r.length, ← r2.length]; exact T.1
  exact GQ.rc_tupG hz (Nat.lt_of_succ_lt (room_units hr)) (fun _ s => Goes X σ π H0 pins s) g g2 (fun i b1 b2 s' G' => T.turn hr hf r r2 i b1 b2 s' G') (fun s' G' => hQ s' G') G
theorem RcW.tupN {a b : Addr} {xs ys : List V} (hS : ∀ H, Ex π H0 H → SqT X.K H a xs) (hS2 : ∀ H, Ex π H0 H → SqT X.K H b ys) (T : EqsW X σ π H0 n xs ys) : RcW X σ π H0 (n + 1) .NotEq false (.ref a) (.ref b) := fun A pins s E Q hr hf G hQ => by
  obtain ⟨H, I, e⟩ := id G
  obtain ⟨its, r, g, _⟩ := I.tuple (hS H e)
  obtain ⟨its2, r2, g2, _⟩ := I.tuple (hS2 H e)
  have hz : its.toArray.size = its2.toArray.size := by rw [List.size_toArray, List.size_toArray, ← r.length, ← r2.length]; exact T.1
  exact rcn_tups hz (Nat.lt_of_succ_lt (room_units hr)) (fun _ s => Goes X σ π H0 pins s) g g2 (fun i b1 b2 s' G' => T.turn hr hf r r2 i b1 b2 s' G') (fun s' G' => hQ s' G') G
/-- two instances, by their own == -/
theorem RcW.own {k : Nat} {C f a b dx dy : Addr} {fd : FuncData} {ps : List Str} {F : List D → T D} {fv gv : List (Str × V)} {N : Addr → Bool} {d d' : D} (O : CmpOwn X.K C .Eq f) (G : FnOk X.prog X.w X.K X.mg X.base CX0 k f fd ps (spD X.K X.prog X.w 2 F)) (hb : Binds X.K fd ps [])
    (hn : HN π N H0) (ha : H0 a = some (.ins C dx fv)) (hap : a ≠ π) (hb2 : H0 b = some (.ins C dy gv)) (hbp : b ≠ π) (r : Rv X.K X.prog X.w π (Hide N H0) (.ref a) d) (r2 : Rv X.K X.prog X.w π (Hide N H0) (.ref b) d') (hF : F [d, d'] = .ret (.bl true)) : RcW X σ π H0 k .Eq true (.ref a) (.ref b) := fun A pins s E Q hr hf ⟨H, I, e⟩ hQ => by
  obtain ⟨mA, M, _, _, _, _⟩ := ins_get I.hok (e.kp a _ hap ha)
  obtain ⟨mB, M2, _, _, _, _⟩ := ins_get I.hok (e.kp b _ hbp hb2)
  obtain ⟨od, J, _⟩ := M.look
  obtain ⟨od2, J2, _⟩ := M2.look
  obtain ⟨m, Fr0⟩ := I.fr
  have q1 : Rv X.K X.prog X.w π (Hide N H) (.ref a) d := r.mono e.kp.hide
  have q2 : Rv X.K X.prog X.w π (Hide N H) (.ref b) d' := r2.mono e.kp.hide
  have sp : ∀ (Q : VK) (E : XK), (∀ v H2, v = .bl true → Ex π H0 H2 → Q v H2) → spD X.K X.prog X.w 2 F [.ref a, .ref b] H Q E := fun Q E h => ⟨π, N, [d, d'], hn.ext e, .cons q1 (.cons q2 .nil), rfl, by rw [hF]; exact fun v H' e2 rv => h v H' (by cases rv; rfl) (e.trans e2)⟩
  refine PySem.W.cmp_K (Nat.lt_of_succ_lt (room_units hr)) Fr0 I.ok.mod.kin J J2.type O.self O.at_ O.fn ?_
  refine wpAny_call (codeAny_mono (G.run A X.stack s H ⟨[.ref a, .ref b], []⟩ [.ref a, .ref b] [.ref a, .ref b] (fun v H2 => v = .bl true ∧ Ex π H0 H2) E0 hr { I.env0 with frames := hf } (hb s [.ref a, .ref b] I.kIn (G.len _ H (fun _ _ => True) E0 (sp _ _ fun _ _ _ _ => trivial))) (.cons rfl (.cons rfl .nil)) (sp _ _ fun v H2 z1 z2 => ⟨z1, z2⟩)) fun r s' hq => ?_)
  cases r with
  | error er => exact hq.elim
  | ok fl =>
    cases fl with
    | ret u =>
      obtain ⟨v, H', I3, rv, ev, q⟩ := I.after hq
      subst ev
      cases rv
      exact hQ s' ⟨H', I3, q⟩
    | next => exact False.elim hq
    | brk => exact False.elim hq
    | cont => exact False.elim hq
end
end Pd

/-! == and != of data that hold instances: where they are alike. -/
namespace Pd
open PySem L2 PySem.Spec PyProof.Rows
mutual
/-- alike; E: two instances -/
def D.same (E : D → D → Bool) : D → D → Bool
  | .non, d => match d with
    | .non => true
    | _ => false
  | .bl a, d => match d with
    | .bl b => a == b
    | _ => false
  | .int a, d => match d with
    | .int b => a == b
    | _ => false
  | .str a, d => match d with
    | .str b => a == b
    | _ => false
  | .tup xs, d => match d with
    | .tup ys => D.sames E xs ys
    | _ => false
  | .lst xs, d => match d with
    | .lst ys => D.sames E xs ys
    | _ => false
  | .ins c fs, d => match d with
    | .ins c2 gs => E (.ins c fs) (.ins c2 gs)
    | _ => false
  | .dic _, _ => false
  | .pot, _ => false
def D.sames (E : D → D → Bool) : List D → List D → Bool
  | [], ys => ys.isEmpty
  | x :: xs, ys => match ys with
    | y :: ys => D.same E x y && D.sames E xs ys
    | [] => false
end
/-- two instances by their class's own == (no own !=) -/
def SameOk (X : Cx) (k : Nat) (E : D → D → Bool) : Prop := ∀ (c c2 : Str) (fs gs : List (Str × D)), E (.ins c fs) (.ins c2 gs) = true → ∃ (C f : Addr) (fd : FuncData) (ps : List Str) (F : List D → T D), ClsAt X.K c C ∧ ClsAt X.K c2 C ∧ CmpOwn X.K C .Eq f ∧ FnOk X.prog X.w X.K X.mg X.base CX0 k f fd ps (spD X.K X.prog X.w 2 F) ∧ Binds X.K fd ps [] ∧ F [.ins c fs, .ins c2 gs] = .ret (.bl true) ∧
  PySem.W.findIn X.K (.ref C) "__ne__" = some (some (.builtin "object.__ne__")) ∧ PySem.W.mroIn X.K C (.type "object") = some true
section
variable {X : Cx} {σ : L2.St} {π : Addr} {H0 : Hp} {N : Addr → Bool} {n k : Nat} {E : D → D → Bool}
theorem tup_ex {v : V} {ds : List D} (r : Rv X.K X.prog X.w π (Hide N H0) v (.tup ds)) : ∃ a vs, v = .ref a ∧ (∀ H, Ex π H0 H → SqT X.K H a vs) ∧ RvL X.K X.prog X.w π (Hide N H0) vs ds := by
  cases r with
  | tup e n l => exact ⟨_, _, rfl, fun H x => .of (x.kp _ _ n (hide_some e).2), l⟩
  | tupK e l => exact ⟨_, _, rfl, fun H _ => e H, l⟩
theorem same_ins (hE : SameOk X k E) (hn : HN π N H0) {c c2 : Str} {fs gs : List (Str × D)} {v v2 : V} (h : E (.ins c fs) (.ins c2 gs) = true) (r : Rv X.K X.prog X.w π (Hide N H0) v (.ins c fs)) (r2 : Rv X.K X.prog X.w π (Hide N H0) v2 (.ins c2 gs)) : ∃ a b, v = .ref a ∧ v2 = .ref b ∧ RcW X σ π H0 k .Eq true (.ref a) (.ref b) := by
  obtain ⟨C, f, fd, ps, F, at1, at2, O, G, B, hF, _, _⟩ := hE c c2 fs gs h
  have r0 := r
  have r02 := r2
  cases r with
  | ins hc e n _ => cases r2 with
    | ins hc2 e2 n2 _ =>
      have z1 := at1.one hc
      subst z1
      have z2 := at2.one hc2
      subst z2
      exact ⟨_, _, rfl, rfl, .own O G B hn (hide_some e).2 n (hide_some e2).2 n2 r0 r02 hF⟩
mutual
theorem same_run (hE : SameOk X k E) (hn : HN π N H0) : ∀ {d d2 : D} {v v2 : V}, D.same E d d2 = true → Rv X.K X.prog X.w π (Hide N H0) v d → Rv X.K X.prog X.w π (Hide N H0) v2 d2 → ∀ u u2, RelV v u → RelV v2 u2 → EqW X σ π H0 (k + D.hgt d) u u2
  | .non, d2, v, v2, h, r, r2 => fun u u2 ru ru2 => by
    cases d2 <;> first | (cases h; done) | skip
    cases r; cases r2
    exact .flat ru ru2 rfl rfl rfl
  | .bl a, d2, v, v2, h, r, r2 => fun u u2 ru ru2 => by
    cases d2 <;> first | (cases h; done) | skip
    cases r; cases r2
    exact .flat ru ru2 rfl rfl h
  | .int a, d2, v, v2, h, r, r2 => fun u u2 ru ru2 => by
    cases d2 <;> first | (cases h; done) | skip
    cases r; cases r2
    exact .flat ru ru2 rfl rfl h
  | .str a, d2, v, v2, h, r, r2 => fun u u2 ru ru2 => by
    cases d2 <;> first | (cases h; done) | skip
    cases r; cases r2
    exact .flat ru ru2 rfl rfl h
  | .dic _, d2, v, v2, h, r, r2 => by cases h
  | .pot, d2, v, v2, h, r, r2 => by cases h
  | .ins c fs, d2, v, v2, h, r, r2 => fun u u2 ru ru2 => by
    cases d2 <;> first | (cases h; done) | skip
    obtain ⟨a, b, rfl, rfl, q⟩ := same_ins (σ := σ) hE hn h r r2
    cases ru; cases ru2
    exact q.eq.mono (Nat.le_add_right _ _)
  | .lst xs, d2, v, v2, h, r, r2 => fun u u2 ru ru2 => by
    cases d2 <;> first | (cases h; done) | skip
    cases r with
    | lst e n l => cases r2 with
      | lst e2 n2 l2 =>
        cases ru; cases ru2
        exact (RcW.list (hide_some e).2 n (hide_some e2).2 n2 (sames_run hE hn h l l2)).eq
  | .tup xs, d2, v, v2, h, r, r2 => fun u u2 ru ru2 => by
    cases d2 <;> first | (cases h; done) | skip
    obtain ⟨a, vs, rfl, hS, l⟩ := tup_ex r
    obtain ⟨b, ws, rfl, hS2, l2⟩ := tup_ex r2
    cases ru; cases ru2
    exact (RcW.tup hS hS2 (sames_run hE hn h l l2)).eq
theorem sames_run (hE : SameOk X k E) (hn : HN π N H0) : ∀ {ds ds2 : List D} {vs vs2 : List V}, D.sames E ds ds2 = true → RvL X.K X.prog X.w π (Hide N H0) vs ds → RvL X.K X.prog X.w π (Hide N H0) vs2 ds2 → EqsW X σ π H0 (k + D.hgts ds) vs vs2
  | [], ds2, vs, vs2, h, r, r2 => by
    cases ds2 with
    | nil => cases r; cases r2; exact ⟨rfl, fun i x y z => by simp at z⟩
    | cons _ _ => cases h
  | d :: ds, ds2, vs, vs2, h, r, r2 => by
    cases ds2 with
    | nil => cases h
    | cons d2 ds2 =>
      obtain ⟨h1, h2⟩ := Bool.and_eq_true_iff.mp h
      cases r with
      | cons r l => cases r2 with
        | cons r2 l2 =>
          have T := sames_run hE hn h2 l l2
          refine ⟨congrArg Nat.succ T.1, fun i x y z1 z2 => ?_⟩
          cases i with
          | zero =>
            cases z1; cases z2
            exact fun u u2 ru ru2 => (same_run hE hn h1 r r2 u u2 ru ru2).mono (Nat.add_le_add_left (Nat.le_max_left _ _) k)
          | succ i => exact fun u u2 ru ru2 => (T.2 i x y z1 z2 u u2 ru ru2).mono (Nat.add_le_add_left (Nat.le_max_right _ _) k)
end
end
end Pd

/-! == and != as operators: data alike that hold instances. -/
namespace Pd
open PySem L2 PySem.Spec PyProof.Rows
section
variable {prog : Program} {w : World} {A : Around} {E : Value → Shared → Prop} {s : Shared} {K : PySem.W.Frag} {x y C f : Addr} {ox : Obj} {od : Option Obj}
/-- object's own != of an instance: its ==, turned -/
theorem ne_entry {Q : Fin → Shared → Prop} (hu : A.units < cLine) (X : K.In s.heap) (J : PySem.W.InstAt s.heap x ox C od) (he : PySem.W.findIn K (.ref C) "__eq__" = some (some (.ref f))) (hf : PySem.W.isFn K (.ref f) = true)
    (h : wpAny (model prog w) A (call (.ref f) [.ref x, .ref y]) (fun v s' => ∃ b, v = .bool b ∧ Q (.done (.ret (.bool (!b)))) s') E s) : wpAny (model prog w) A (Builtin.«object.__ne__» ⟨[.ref x, .ref y], []⟩) Q E s := by
  unfold Builtin.«object.__ne__»
  repeat (first
    | with_reducible refine wpAny_cRoomFor hu ?_
    | (refine wpAny_bind (m := callSpecialIfBound? (.ref x) (Str.ofString "__eq__") [.ref y]) (PySem.W.ifBound_K X J he hf (wpAny_mono h (fun r s' z => by
        obtain ⟨b, rfl, q⟩ := z
        repeat (first | exact q | exact wpAny_pure q | exact wpAny_truthy_bool q | (refine wpAny_bind (m := truthy (.bool _)) (wpAny_truthy_bool ?_)) | wp_step)) fun _ _ z => z)))
    | wp_step)
theorem bound_ne {args : List Value} {Q : Option Value → Shared → Prop} {M : Model} (X : K.In s.heap) (J : PySem.W.InstAt s.heap x ox C od) (hs : PySem.W.findIn K (.ref C) "__ne__" = some (some (.builtin "object.__ne__")))
    (h : wpAny M A (call (.builtin "object.__ne__") (.ref x :: args)) (fun v => Q (some v)) E s) : wpAny M A (callSpecialIfBound? (.ref x) "__ne__" args) Q E s := by
  have fin : wpAny M A (call (.builtin "object.__ne__") ([.ref x] ++ args) >>= fun v => pure (some v)) Q E s := wpAny_bind (wpAny_mono h (fun v s' z => wpAny_pure z) fun _ _ z => z)
  simp only [callSpecialIfBound?, bindSpecialIfBound?]
  refine wpAny_holding (wpAny_bind (wpAny_bind (wpAny_bind (J.type.here ((PySem.W.looks_findIn X hs).here ?_)))))
  refine wpAny_bind (wpAny_askSetting (wpAny_ite ?_))
  split
  · exact wpAny_bind (wpAny_of_eq (F.cmp_object.ne.bind _) (wpAny_pure (by exact fin)))
  · exact wpAny_tryCatch (wpAny_bind (wpAny_of_eq (F.cmp_object.ne.bind _) (wpAny_pure (by exact fin))))
theorem rc_neIns {Q : Value → Shared → Prop} {oy : Obj} {ody : Option Obj} (hu : A.units + 1 < cLine) (X : K.In s.heap) (J : PySem.W.InstAt s.heap x ox C od) (J2 : PySem.W.InstAt s.heap y oy C ody) (hm : PySem.W.mroIn K C (.type "object") = some true) (hs : PySem.W.findIn K (.ref C) "__ne__" = some (some (.builtin "object.__ne__")))
    (he : PySem.W.findIn K (.ref C) "__eq__" = some (some (.ref f))) (hf : PySem.W.isFn K (.ref f) = true) (h : wpAny (model prog w) A.in1 (call (.ref f) [.ref x, .ref y]) (fun v s' => ∃ b, v = .bool b ∧ Q (.bool (!b)) s') E s) :
    wpAny (model prog w) A (richCompare .NotEq (.ref x) (.ref y)) Q E s := by
  have one : wpAny (model prog w) A (tryCompare (.ref x) "__ne__" (.ref y)) (fun r s' => ∃ b, r = some (.bool b) ∧ Q (.bool b) s') E s := by
    unfold tryCompare
    refine wpAny_bind (bound_ne X J hs (wpAny_call (codeAny_call_builtin F.cmp_object.ne.plain F.cmpEntry_ne (PySem.W.check_slot F.cmpKind_ne F.cmpSplit_ne (J.type.andThen (PySem.W.looks_mroIn X hm)) (F.cmpArgs_ne _ _) ?_))))
    refine ne_entry (A := A.in1) hu X J he hf (wpAny_mono h (fun v s' z => ?_) fun _ _ z => z)
    obtain ⟨b, rfl, q⟩ := z
    first | exact ⟨b, rfl, wpAny_pure ⟨_, rfl, q⟩⟩ | exact ⟨b, rfl, wpAny_pure (wpAny_pure ⟨_, rfl, q⟩)⟩
  simp only [richCompare, cmpInfo_NotEq, oneThing_ref]
  refine wpAny_holding (wpAny_bind (wpAny_cRoomFor (Nat.lt_of_succ_lt hu) ?_))
  refine wpAny_bind (J.type.here (wpAny_bind (J2.type.here ?_)))
  rw [show (Value.ref C != Value.ref C) = false from by simp]
  simp only [Bool.false_eq_true, if_false]
  refine wpAny_bind (wpAny_pure ?_)
  simp only [Bool.false_eq_true, if_false]
  refine wpAny_bind (m := tryCompare (.ref x) _ (.ref y)) (wpAny_mono one (fun r s1 z => ?_) fun _ _ z => z)
  obtain ⟨b, rfl, q⟩ := z
  exact wpAny_pure q
end
section
variable {X : Cx} {k : Nat} {E : D → D → Bool}
theorem RcW.ownN {σ : L2.St} {π : Addr} {H0 : Hp} {k : Nat} {C f a b dx dy : Addr} {fd : FuncData} {ps : List Str} {F : List D → T D} {fv gv : List (Str × V)} {N : Addr → Bool} {d d' : D} (O : CmpOwn X.K C .Eq f) (G : FnOk X.prog X.w X.K X.mg X.base CX0 k f fd ps (spD X.K X.prog X.w 2 F)) (hb : Binds X.K fd ps []) (hs : PySem.W.findIn X.K (.ref C) "__ne__" = some (some (.builtin "object.__ne__"))) (hm : PySem.W.mroIn X.K C (.type "object") = some true)
    (hn : HN π N H0) (ha : H0 a = some (.ins C dx fv)) (hap : a ≠ π) (hb2 : H0 b = some (.ins C dy gv)) (hbp : b ≠ π) (r : Rv X.K X.prog X.w π (Hide N H0) (.ref a) d) (r2 : Rv X.K X.prog X.w π (Hide N H0) (.ref b) d') (hF : F [d, d'] = .ret (.bl true)) : RcW X σ π H0 (k + 1) .NotEq false (.ref a) (.ref b) := fun A pins s E Q hr hf ⟨H, I, e⟩ hQ => by
  obtain ⟨mA, M, _, _, _, _⟩ := ins_get I.hok (e.kp a _ hap ha)
  obtain ⟨mB, M2, _, _, _, _⟩ := ins_get I.hok (e.kp b _ hbp hb2)
  obtain ⟨od, J, _⟩ := M.look
  obtain ⟨od2, J2, _⟩ := M2.look
  have q1 : Rv X.K X.prog X.w π (Hide N H) (.ref a) d := r.mono e.kp.hide
  have q2 : Rv X.K X.prog X.w π (Hide N H) (.ref b) d' := r2.mono e.kp.hide
  have sp : ∀ (Q : VK) (E : XK), (∀ v H2, v = .bl true → Ex π H0 H2 → Q v H2) → spD X.K X.prog X.w 2 F [.ref a, .ref b] H Q E := fun Q E h => ⟨π, N, [d, d'], hn.ext e, .cons q1 (.cons q2 .nil), rfl, by rw [hF]; exact fun v H' e2 rv => h v H' (by cases rv; rfl) (e.trans e2)⟩
  refine rc_neIns (room_units hr) I.kIn J J2 hm hs O.at_ O.fn ?_
  refine wpAny_call (codeAny_mono (G.run A.in1 X.stack s H ⟨[.ref a, .ref b], []⟩ [.ref a, .ref b] [.ref a, .ref b] (fun v H2 => v = .bl true ∧ Ex π H0 H2) E0 hr.in1 { I.env0 with frames := hf } (hb s [.ref a, .ref b] I.kIn (G.len _ H (fun _ _ => True) E0 (sp _ _ fun _ _ _ _ => trivial))) (.cons rfl (.cons rfl .nil)) (sp _ _ fun v H2 z1 z2 => ⟨z1, z2⟩)) fun r s' hq => ?_)
  cases r with
  | error er => exact hq.elim
  | ok fl =>
    cases fl with
    | ret u =>
      obtain ⟨v, H', I3, rv, ev, q⟩ := I.after hq
      subst ev
      cases rv
      exact ⟨true, rfl, hQ s' ⟨H', I3, q⟩⟩
    | next => exact False.elim hq
    | brk => exact False.elim hq
    | cont => exact False.elim hq
def isBig : D → Bool
  | .tup _ => true
  | .lst _ => true
  | .ins _ _ => true
  | _ => false
/-- x == y, where they are alike -/
def opEqS (E : D → D → Bool) (x y : D) : T D := cond (D.same E x y && isBig x && decide (D.hgt x ≤ 4)) (.ret (.bl true)) .fail
/-- x != y, where they are alike -/
def opNeS (E : D → D → Bool) (x y : D) : T D := cond (D.same E x y && isBig x && decide (D.hgt x ≤ 4)) (.ret (.bl false)) .fail
theorem big_run {σ : L2.St} {π : Addr} {H0 : Hp} {N : Addr → Bool} (hE : SameOk X k E) (hn : HN π N H0) {d d2 : D} {v v2 : V} (h : D.same E d d2 = true) (hb : isBig d = true) (r : Rv X.K X.prog X.w π (Hide N H0) v d) (r2 : Rv X.K X.prog X.w π (Hide N H0) v2 d2) :
    ∃ a b, v = .ref a ∧ v2 = .ref b ∧ RcW X σ π H0 (k + D.hgt d + 1) .Eq true (.ref a) (.ref b) ∧ RcW X σ π H0 (k + D.hgt d + 1) .NotEq false (.ref a) (.ref b) := by
  have up : ∀ {m n : Nat} {op : CmpOp} {b : Bool} {u w : Value}, RcW X σ π H0 m op b u w → m ≤ n → RcW X σ π H0 n op b u w := fun h l A pins s E Q hr => h A pins s E Q (hr.mono l)
  cases d with
  | lst xs =>
    cases d2 <;> first | (cases h; done) | skip
    cases r with
    | lst e n l => cases r2 with
      | lst e2 n2 l2 =>
        have T := sames_run (σ := σ) hE hn h l l2
        exact ⟨_, _, rfl, rfl, up (.list (hide_some e).2 n (hide_some e2).2 n2 T) (Nat.le_succ _), up (.listN (hide_some e).2 n (hide_some e2).2 n2 T) (Nat.le_succ _)⟩
  | tup xs =>
    cases d2 <;> first | (cases h; done) | skip
    obtain ⟨a, vs, rfl, hS, l⟩ := tup_ex r
    obtain ⟨b, ws, rfl, hS2, l2⟩ := tup_ex r2
    have T := sames_run (σ := σ) hE hn h l l2
    exact ⟨_, _, rfl, rfl, up (.tup hS hS2 T) (Nat.le_succ _), up (.tupN hS hS2 T) (Nat.le_succ _)⟩
  | ins c fs =>
    cases d2 <;> first | (cases h; done) | skip
    obtain ⟨C, f, fd, ps, F, at1, at2, O, G, B, hF, hne, hm⟩ := hE _ _ _ _ h
    have r0 := r
    have r02 := r2
    cases r with
    | ins hc e n _ => cases r2 with
      | ins hc2 e2 n2 _ =>
        have z1 := at1.one hc
        subst z1
        have z2 := at2.one hc2
        subst z2
        exact ⟨_, _, rfl, rfl, up (.own O G B hn (hide_some e).2 n (hide_some e2).2 n2 r0 r02 hF) (Nat.le_succ _), .ownN O G B hne hm hn (hide_some e).2 n (hide_some e2).2 n2 r0 r02 hF⟩
  | _ => cases hb
theorem os_S {op : CmpOp} {c : Bool} (hop : (op = .Eq ∧ c = true) ∨ (op = .NotEq ∧ c = false)) (hE : SameOk X k E) (hr : Room (k + 5) X.A) : OpSnd X (compareOp op) fun x y => cond (D.same E x y && isBig x && decide (D.hgt x ≤ 4)) (.ret (.bl c)) .fail := fun {π N H x y dx dy Q} hn rx ry h => by
  obtain ⟨hb, h⟩ := cond_all h
  simp only [Bool.and_eq_true, decide_eq_true_eq] at hb
  obtain ⟨⟨b1, b2⟩, b3⟩ := hb
  refine ⟨fun x' y' H' Q => x' = x ∧ y' = y ∧ H' = H ∧ ∀ H2, Ex π H H2 → Q (.bl c) H2, ?_, rfl, rfl, rfl, fun H2 e => h _ _ e (.bl c)⟩
  intro pins s σ H1 x' y' v u Q I r1 r2 q
  obtain ⟨rfl, rfl, rfl, hq⟩ := q
  obtain ⟨a, b, rfl, rfl, t1, t2⟩ := big_run (σ := σ) hE hn b1 b2 rx ry
  cases r1
  cases r2
  have room : Room (k + D.hgt dx + 1) X.A := hr.mono (by omega)
  have G : Goes X σ π H1 pins s := ⟨H1, I, Ex.refl hn.pot⟩
  rcases hop with ⟨rfl, rfl⟩ | ⟨rfl, rfl⟩
  · exact t1 X.A pins s _ _ room I.env0.frames G fun s' ⟨H', I', e'⟩ => ⟨.bl true, H', I', rfl, hq _ e'⟩
  · exact t2 X.A pins s _ _ room I.env0.frames G fun s' ⟨H', I', e'⟩ => ⟨.bl false, H', I', rfl, hq _ e'⟩
theorem os_eqS (hE : SameOk X k E) (hr : Room (k + 5) X.A) : OpSnd X (compareOp .Eq) (opEqS E) := os_S (.inl ⟨rfl, rfl⟩) hE hr
theorem os_neS (hE : SameOk X k E) (hr : Room (k + 5) X.A) : OpSnd X (compareOp .NotEq) (opNeS E) := os_S (.inr ⟨rfl, rfl⟩) hE hr
end
end Pd

/-! a <= b <= c; what a law's text asks of Ratio. -/
namespace Pd
open PySem L2 PySem.Spec PyProof.Rows
def eChain (f g : D → D → T D) (ma mb mc : Rho → T D) : Rho → T D := fun ρ => (ma ρ).bind fun x => (mb ρ).bind fun y => (f x y).bind fun b => (asB b).bind fun b => cond b ((mc ρ).bind fun z => g y z) (.ret (.bl false))
section
variable {X : Cx} {a b c : Expr} {ma mb mc : Rho → T D} {pos : Pos}
theorem s_chain {op op2 : CmpOp} {f g : D → D → T D} (ho : OpSnd X (compareOp op) f) (ho2 : OpSnd X (compareOp op2) g) (ha : Snd X a ma) (hb : Snd X b mb) (hc : Snd X c mc) (hm : lastMarks [op, op2] [b, c] = false := by with_unfolding_all rfl) : Snd X (.Compare a [op, op2] [b, c] pos) (eChain f g ma mb mc) :=
  fun {π N0 H0 N H σ ρ Q} I h => ⟨_, pe_chain op_wp op_wp pe_wp pe_wp pe_wp hm, by
    refine ha I (T.all_mono (fun dx hx => ?_) (T.all_bind.mp h))
    intro v H1 e1 r1
    refine hb (I.ext e1) (T.all_mono (fun dy hy => ?_) (T.all_bind.mp hx))
    intro u H2 e2 r2
    have I2 := (I.ext e1).ext e2
    refine ho I2.hn (r1.mono e2.kp.hide) r2 (T.all_mono (fun dk hk => ?_) (T.all_bind.mp hy))
    intro t H3 e3 r3
    obtain ⟨k, rfl, hk⟩ := asB_all (T.all_bind.mp hk)
    refine ⟨k, r3.bool, ?_⟩
    cases k with
    | true =>
      refine hc (I2.ext e3) (T.all_mono (fun dz hz => ?_) (T.all_bind.mp hk))
      intro s H4 e4 r4
      exact ho2 ((I2.ext e3).ext e4).hn (r2.mono (e3.trans e4).kp.hide) r4 (T.all_mono (fun d hd v' H5 e5 r5 => hd v' H5 (e1.trans (e2.trans (e3.trans (e4.trans e5)))) r5) hz)
    | false => exact hk (.bl false) H3 (e1.trans (e2.trans e3)) (.bl false)⟩
end
/-- a, xs = value, a new list -/
def sParO (i j : Nat) (ma : Rho → T D) (ml : Rho → T (List D)) : Rho → T Out := fun ρ => (ma ρ).bind fun x => (ml ρ).bind fun ds => .ret (.nx ((ρ.set i (.val x)).set j (.own ds)))
section
variable {X : Cx} {a b : Expr} {ma : Rho → T D} {ml : Rho → T (List D)} {pos : Pos}
theorem ss_parO {i j : Nat} {x y : Str} {px py pt : Pos} {kt k2 pt2} (hc : X.calm = true) (hN : X.N.Nodup) (ha : Snd X a ma) (hb : SndL X b ml) (hij : i ≠ j := by decide) (hi : X.N[i]? = some x := by rfl) (hj : X.N[j]? = some y := by rfl)
    (hx : X.env.scope.names.lookup x = some .local := by rfl) (hy : X.env.scope.names.lookup y = some .local := by rfl)
    (hw : swappedStores [.Tuple [.Name x px, .Name y py] kt pt] (.Tuple [a, b] k2 pt2) X.env = pure (some [x, y]) := by rfl)
    (hs : swapsWithSole [.Tuple [.Name x px, .Name y py] kt pt] (.Tuple [a, b] k2 pt2) pos.line X.env = pure false := by rfl) (he : starEach [a, b] X.env = (false, eval a X.env) :: starEach [b] X.env := by rfl) (he2 : starEach [b] X.env = (false, eval b X.env) :: starEach [] X.env := by rfl) :
    SndS X (.Assign [.Tuple [.Name x px, .Name y py] kt pt] (.Tuple [a, b] k2 pt2) pos) (sParO i j ma ml) := fun {π N0 H0 N H σ ρ De} I h => ⟨_, ps_par hc hN hi hj hij hx hy (pa_cons pe_wp (pa_cons pe_wp pa_nil he2) he) hw hs, by
  refine ha I (T.all_mono (fun d hd => ?_) (T.all_bind.mp h))
  intro v H1 e1 r1
  refine hb (I.ext e1) (T.all_mono (fun ds hds => ?_) (T.all_bind.mp hd))
  intro l vs H2 e2 hl h2 r
  exact ⟨v, .ref l, rfl, hds _ _ _ (((I.ext e1).set r1).newOwn e2 hl h2 ⟨vs, rfl, r⟩)⟩⟩
end
/-- == and != : texts and numbers by themselves, all else as data -/
def opEqF : D → D → T D
  | .str x, .str y => .ret (.bl (decide (x = y)))
  | .int i, .int j => .ret (.bl (decide (i = j)))
  | x, y => opEq x y
def opNeF : D → D → T D
  | .str x, .str y => .ret (.bl (!decide (x = y)))
  | .int i, .int j => .ret (.bl (!decide (i = j)))
  | x, y => opNe x y
section
variable {X : Cx}
theorem dec_V_str {x y : Str} : decide (V.str x = V.str y) = decide (x = y) := by
  rw [Bool.eq_iff_iff]
  simp
theorem dec_V_int {x y : Int} : decide (V.int x = V.int y) = decide (x = y) := by
  rw [Bool.eq_iff_iff]
  simp
theorem os_eqF (hu : X.A.units + 64 < cLine) : OpSnd X (compareOp .Eq) opEqF := fun {π N H x y dx dy Q} hn rx ry h => by
  unfold opEqF at h
  split at h
  · cases rx; cases ry
    exact ⟨_, L2.op_eq, rfl, by rw [dec_V_str]; exact h _ _ (Ex.refl hn.pot) (.bl _)⟩
  · cases rx; cases ry
    exact ⟨_, L2.op_eq, rfl, by rw [dec_V_int]; exact h _ _ (Ex.refl hn.pot) (.bl _)⟩
  · exact os_eq hu hn rx ry h
theorem os_neF (hu : X.A.units + 64 < cLine) : OpSnd X (compareOp .NotEq) opNeF := fun {π N H x y dx dy Q} hn rx ry h => by
  unfold opNeF at h
  split at h
  · cases rx; cases ry
    exact ⟨_, L2.op_ne, rfl, by rw [dec_V_str]; exact h _ _ (Ex.refl hn.pot) (.bl _)⟩
  · cases rx; cases ry
    exact ⟨_, L2.op_ne, rfl, by rw [dec_V_int]; exact h _ _ (Ex.refl hn.pot) (.bl _)⟩
  · exact os_ne hu hn rx ry h
end
/-- an instance's text by its own method, ahead of a body -/
def TxP (P : Program) (w : World) (K : PySem.W.Frag) (mg : Str → Option Value) (base : Heap) (k : Nat) (R : D → Option Str) : Prop := ∀ (c : Str) (fs : List (Str × D)) (t : Str), R (.ins c fs) = some t → ∃ (C f : Addr) (fd : FuncData) (ps : List Str) (F : List D → T D), ClsAt K c C ∧ OwnTxt K C "__repr__" f ∧ FnOk P w K mg base CX0 k f fd ps (spD K P w 1 F) ∧ Binds K fd ps [] ∧ F [.ins c fs] = .ret (.str t)
theorem TxP.ok {X : Cx} {k : Nat} {R : D → Option Str} (h : TxP X.prog X.w X.K X.mg X.base k R) : TxOk X k R := h
/-- the text of one class's instances -/
def rOne (c0 : Str) (F : List D → T D) : D → Option Str
  | .ins c fs => cond (c == c0) (match F [.ins c fs] with
    | .ret (.str t) => some t
    | _ => none) none
  | _ => none
theorem TxP.of {P : Program} {w : World} {K : PySem.W.Frag} {mg : Str → Option Value} {base : Heap} {k : Nat} {c0 : Str} {F : List D → T D} (h : PmT P w K mg base c0 "__repr__" k F) : TxP P w K mg base k (rOne c0 F) := fun c fs t ht => by
  obtain ⟨C, f, fd, ps, at_, O, G, B⟩ := h
  unfold rOne at ht
  dsimp only at ht
  cases e : c == c0 with
  | false => rw [e] at ht; cases ht
  | true =>
    rw [e] at ht
    have ec : c = c0 := by simpa using e
    subst ec
    refine ⟨C, f, fd, ps, F, at_, O, G, B, ?_⟩
    dsimp only [cond] at ht
    split at ht
    · rename_i z
      cases ht
      exact z
    · cases ht
end Pd

/-! Values: texts of bounded length; loops and comprehensions by what each turn gives. -/
namespace Pd
open PySem L2 PySem.Spec PyProof.Rows
theorem tupleText_le (ts : List Str) : (tupleText ts).length ≤ piled ts + 2 := by
  unfold tupleText
  rw [strLen_append, strLen_append]
  have e1 : ((("(" : String) : Str)).length = 1 := rfl
  have e3 : (((if ts.length == 1 then ",)" else ")" : String) : Str)).length ≤ 2 := by split <;> decide
  cases ts with
  | nil =>
    have e4 : (Str.join ", " []).length = 0 := rfl
    have e5 : (((if ([] : List Str).length == 1 then ",)" else ")" : String) : Str)).length = 1 := rfl
    rw [e1, e4, e5, piled_nil]
    decide
  | cons t ts =>
    have := join_length_add (t :: ts) (by simp)
    omega
theorem listText_le (ts : List Str) : (listText ts).length ≤ piled ts + 2 := by
  unfold listText
  rw [strLen_append]
  have e2 : ((("]" : String) : Str)).length = 1 := rfl
  have e1 : ((("[" : String) : Str)).length = 1 := rfl
  cases ts with
  | nil => rw [e2]; show 1 + 1 ≤ _; rw [piled_nil]; decide
  | cons t ts =>
    have h : textFrom 0 "[" (t :: ts) = textFrom 1 (("[" : Str) ++ ("" : String) ++ t) ts := rfl
    rw [h, textFrom_length_pos _ _ _ (by decide), strLen_append, strLen_append, e1, e2, piled_cons]
    have e0 : ((("" : String) : Str)).length = 0 := rfl
    omega
/-- the text of v stands, is no longer than n; v is no deeper than h -/
def GT (R : D → Option Str) (h n : Nat) (v : D) : Prop := ∃ t, D.tx R v = some t ∧ t.length ≤ n ∧ D.hgt v ≤ h
theorem GT.mono {R : D → Option Str} {h n h2 n2 : Nat} {v : D} (g : GT R h n v) (a : h ≤ h2) (b : n ≤ n2) : GT R h2 n2 v := let ⟨t, x, y, z⟩ := g; ⟨t, x, Nat.le_trans y b, Nat.le_trans z a⟩
theorem GTs {R : D → Option Str} {h n : Nat} : ∀ {ds : List D}, (∀ d ∈ ds, GT R h n d) → ∃ ts, D.txs R ds = some ts ∧ piled ts ≤ ds.length * (n + 2) ∧ D.hgts ds ≤ h
  | [], _ => ⟨[], rfl, by simp [piled_nil], Nat.zero_le _⟩
  | d :: ds, g => by
    obtain ⟨t, x, y, z⟩ := g d (List.mem_cons_self ..)
    obtain ⟨ts, xs, ys, zs⟩ := GTs (ds := ds) fun e he => g e (List.mem_cons_of_mem _ he)
    refine ⟨t :: ts, ?_, ?_, Nat.max_le.mpr ⟨z, zs⟩⟩
    · unfold D.txs
      rw [x, xs]
    · rw [piled_cons, List.length_cons, Nat.succ_mul]
      omega
theorem GT.tup {R : D → Option Str} {h n : Nat} {ds : List D} (g : ∀ d ∈ ds, GT R h n d) : GT R (h + 1) (ds.length * (n + 2) + 2) (.tup ds) := by
  obtain ⟨ts, x, y, z⟩ := GTs g
  refine ⟨tupleText ts, ?_, Nat.le_trans (tupleText_le ts) (by omega), Nat.succ_le_succ z⟩
  unfold D.tx
  rw [x]
theorem GT.lst {R : D → Option Str} {h n : Nat} {ds : List D} (g : ∀ d ∈ ds, GT R h n d) : GT R (h + 1) (ds.length * (n + 2) + 2) (.lst ds) := by
  obtain ⟨ts, x, y, z⟩ := GTs g
  refine ⟨listText ts, ?_, Nat.le_trans (listText_le ts) (by omega), Nat.succ_le_succ z⟩
  unfold D.tx
  rw [x]
theorem txs_len {R : D → Option Str} : ∀ {ds : List D} {ts : List Str}, D.txs R ds = some ts → 2 * ds.length ≤ piled ts
  | [], ts, h => by cases h; simp
  | d :: ds, ts, h => by
    obtain ⟨t, us, rfl, _, h2⟩ := txs_cons h
    have := txs_len h2
    rw [piled_cons, List.length_cons]
    omega
theorem repr_val {R : D → Option Str} {h n : Nat} {v : D} (g : GT R h n v) (a : h ≤ 6) (b : n ≤ 100000) : ∃ t, bReprR R [v] = .ret (.str t) ∧ t.length ≤ 100000 := by
  obtain ⟨t, x, y, z⟩ := g
  refine ⟨t, ?_, Nat.le_trans y b⟩
  unfold bReprR
  dsimp only
  rw [x]
  dsimp only
  rw [decide_eq_true (Nat.le_trans z a), decide_eq_true (Nat.le_trans y b)]
  rfl
/-! comprehensions -/
theorem compT_map {i : Nat} {me : Rho → T D} {ρ : Rho} {f : D → D} : ∀ {ds acc : List D}, acc.length + ds.length ≤ 100000 → (∀ d ∈ ds, me (ρ.set i (.val d)) = .ret (f d)) → compT (gNm i) yesT me ρ ds acc = .ret (acc ++ ds.map f)
  | [], acc, _, _ => by unfold compT; simp
  | d :: ds, acc, hl, h => by
    have c : small acc = true := decide_eq_true (by rw [List.length_cons] at hl; omega)
    have e : compT (gNm i) yesT me ρ (d :: ds) acc = (me (ρ.set i (.val d))).bind fun y => cond (small acc) (compT (gNm i) yesT me ρ ds (acc ++ [y])) .fail := rfl
    rw [e, h d (List.mem_cons_self ..)]
    show cond (small acc) _ _ = _
    rw [c]
    show compT (gNm i) yesT me ρ ds (acc ++ [f d]) = _
    rw [compT_map (by rw [List.length_append, List.length_cons, List.length_nil]; rw [List.length_cons] at hl; omega) fun e he => h e (List.mem_cons_of_mem _ he)]
    rw [List.append_assoc]
    rfl
theorem bools_map {p : D → Bool} : ∀ ds : List D, bools (ds.map fun d => .bl (p d)) = some (ds.map p)
  | [] => rfl
  | d :: ds => by
    show (match bools (ds.map fun d => .bl (p d)) with | some bs => some (p d :: bs) | none => none) = _
    rw [bools_map ds]
    rfl
theorem all_val {p : D → Bool} (ds : List D) : bAll [.lst (ds.map fun d => .bl (p d))] = .ret (.bl (ds.all p)) := by
  unfold bAll
  dsimp only
  rw [bools_map]
  dsimp only
  rw [List.all_map]
  rfl
/-! loops -/
/-- each turn keeps P -/
theorem for_inv {body : D → Rho → T Out} {P : Nat → Rho → Prop} : ∀ {ds : List D} {k : Nat} {ρ : Rho}, P k ρ → (∀ (i : Nat) (d : D) (ρ : Rho), k ≤ i → ds[i - k]? = some d → P i ρ → (body d ρ).all fun o => ∃ ρ', o = .nx ρ' ∧ P (i + 1) ρ') → (forT body ds ρ).all fun o => ∃ ρ', o = .nx ρ' ∧ P (k + ds.length) ρ'
  | [], k, ρ, h, _ => ⟨ρ, rfl, h⟩
  | d :: ds, k, ρ, h, step => by
    refine T.all_bind.mpr (T.all_mono (fun o ho => ?_) (step k d ρ (Nat.le_refl _) (by rw [Nat.sub_self]; rfl) h))
    obtain ⟨ρ', rfl, h'⟩ := ho
    show T.all _ (forT body ds ρ')
    have q := for_inv (body := body) (P := P) (ds := ds) (k := k + 1) h' fun i d ρ hi hd hp => step i d ρ (by omega) (by
      have e : i - k = (i - (k + 1)) + 1 := by omega
      rw [e, List.getElem?_cons_succ]
      exact hd) hp
    rw [show k + (d :: ds).length = k + 1 + ds.length by rw [List.length_cons]; omega]
    exact q
theorem seq_nx {m1 m2 : Rho → T Out} {ρ : Rho} {P : Out → Prop} (h : (m1 ρ).all fun o => ∃ ρ', o = .nx ρ' ∧ (m2 ρ').all P) : (bSeq m1 m2 ρ).all P :=
  T.all_bind.mpr (T.all_mono (fun o ho => by obtain ⟨ρ', rfl, h⟩ := ho; exact h) h)
end Pd

/-! zip of a tuple and a list: a zip over any two feeds. -/
namespace Pd
open PySem L2 PySem.Spec PyProof.Rows
/-- something that is fed item by item: an iterator over what stands at another place -/
structure Feed (at_ : Heap → Addr → Addr → Nat → Prop) (has : Heap → Addr → Array Value → Prop) : Prop where
  keep : ∀ {h h' : Heap} {c it l : Addr} {i : Nat}, at_ h it l i → Heap.ExtBut c h h' → it ≠ c → at_ h' it l i
  hold : ∀ {h h' : Heap} {c l : Addr} {xs : Array Value}, has h l xs → Heap.ExtBut c h h' → l ≠ c → has h' l xs
  obj : ∀ {h : Heap} {it l : Addr} {i : Nat}, at_ h it l i → ∃ o, h.get? it = some o ∧ ∀ v, o.data ≠ .cell v
  same : ∀ {h h' : Heap} {it l : Addr} {i : Nat}, at_ h it l i → (∀ o, h.get? it = some o → h'.get? it = some o) → at_ h' it l i
  item : ∀ {prog : Program} {w : World} {A : Around} {E : Value → Shared → Prop} {s : Shared} {it l : Addr} {i : Nat} {xs : Array Value} {x : Value} {Q : Value → Shared → Prop}, at_ s.heap it l i → has s.heap l xs → xs[i]? = some x →
    (∀ h', at_ h' it l (i + 1) → Heap.SameBut it s.heap h' → Q x { s with heap := h' }) → wpAny (model prog w) A (Builtin.SmallTypes.nextOf (.ref it)) Q E s
  last : ∀ {prog : Program} {w : World} {A : Around} {E : Value → Shared → Prop} {s : Shared} {it l : Addr} {i : Nat} {xs : Array Value} {Q : Value → Shared → Prop}, A.handled = none → at_ s.heap it l i → has s.heap l xs → xs[i]? = none →
    (∀ h' e, Heap.ExtBut it s.heap h' → (∃ o, h'.get? e = some o ∧ o.cls = .type "StopIteration") → E (.ref e) { s with heap := h' }) → wpAny (model prog w) A (Builtin.SmallTypes.nextOf (.ref it)) Q E s
theorem feedT : Feed Heap.IsTupleIter Heap.IsTuple where
  keep a e n := a.extBut e n
  hold a e n := a.extBut e n
  obj a := let ⟨o, e, _, d⟩ := a; ⟨o, e, fun v q => by rw [d] at q; cases q⟩
  same a e := a.at e
  item a b c d := RZ.nextOf_tuple_item a b c d
  last h a b c d := RZ.nextOf_tuple_end h a b c d
theorem feedL : Feed Heap.IsListIter Heap.IsList where
  keep a e n := a.extBut e n
  hold a e n := a.extBut e n
  obj a := let ⟨o, e, _, d⟩ := a; ⟨o, e, fun v q => by rw [d] at q; cases q⟩
  same a e := a.at e
  item a b c d := wpAny_nextOf_list_item a b c d
  last h a b c d := wpAny_nextOf_list_end h a b c d
section
variable {a1 a2 : Heap → Addr → Addr → Nat → Prop} {c1 c2 : Heap → Addr → Array Value → Prop}
variable {prog : Program} {w : World} {A : Around} {E : Value → Shared → Prop} {s : Shared}
/-- what stands apart in such a zip -/
theorem zg_item {Z I O p1 p2 m1 m2 : Addr} {k1 k2 : Nat} {xs ys : Array Value} {x y u v : Value} {Q : Value → Shared → Prop} (F1 : Feed a1 c1) (F2 : Feed a2 c2) (D : ZipApart Z I O p1 p2 m1 m2) (gz : IsZip s.heap Z I O .none) (gI : IsPair s.heap I (.ref p1) (.ref p2)) (gO : IsPair s.heap O u v)
    (f1 : a1 s.heap p1 m1 k1) (f2 : a2 s.heap p2 m2 k2) (s1 : c1 s.heap m1 xs) (s2 : c2 s.heap m2 ys) (ex : xs[k1]? = some x) (ey : ys[k2]? = some y)
    (fin : ∀ h', IsZip h' Z I O (rawInt s.heap.objs.size) → IsPair h' O x y → a1 h' p1 m1 (k1 + 1) → a2 h' p2 m2 (k2 + 1) → IsPair h' s.heap.objs.size x y → h'.objs.size = s.heap.objs.size + 1 → (∀ c o, c ≠ Z → c ≠ O → c ≠ p1 → c ≠ p2 → s.heap.get? c = some o → h'.get? c = some o) → Q (.ref s.heap.objs.size) { s with heap := h' }) :
    wpAny (model prog w) A (Builtin.«zip.__next__» ⟨[.ref Z], []⟩) (fun r s' => ∃ v, r = .done (.ret v) ∧ Q v s') E s := by
  refine show wpAny _ _ (field (.ref Z) 2 >>= _) _ _ _ from wpAny_bind (wpAny_field gz rfl (x := .bool false) rfl (show wpAny _ _ (field (.ref Z) 3 >>= _) _ _ _ from wpAny_bind (wpAny_field gz rfl (x := .ref I) rfl (wpAny_bind (wpAny_seqItems gI rfl ?_)))))
  refine show wpAny _ _ (Builtin.SmallTypes.ownedTupleIsFree (.ref Z) >>= _) _ _ _ from wpAny_bind ?_
  unfold Builtin.SmallTypes.ownedTupleIsFree; refine wpAny_bind (wpAny_field gz rfl (x := .none) rfl (wpAny_pure ?_)); simp only [if_true]
  refine wpAny_bind (wpAny_rule (wpAny_bind (wpAny_field gz rfl (x := .ref O) rfl (wpAny_bind (wpAny_setField_rec gz (by simp) fun b1 gz1 e1 => ?_)))))
  replace gz1 : IsZip b1 Z I O .ellipsis := gz1
  refine wpAny_bind ?_; simp only [List.zipIdx_cons, List.zipIdx_nil, List.forIn_cons, List.forIn_nil]
  refine wpAny_bind (wpAny_bind (wpAny_onRaise (show wpAny _ _ (Builtin.SmallTypes.nextOf (.ref p1) >>= _) _ _ _ from wpAny_bind (F1.item (F1.keep f1 e1.extBut D.i1z) (F1.hold s1 e1.extBut D.l1z) ex fun b2 f1b e2 => wpAny_pure ?_))))
  have gO2 : IsPair b2 O u v := e2.extBut _ _ D.TOi1 (e1.extBut _ _ D.TOz gO)
  refine wpAny_bind (wpAny_seqItems gO2 rfl (wpAny_bind (wpAny_updateSeq_pair gO2 fun b3 gO3 e3 => ?_)))
  replace gO3 : IsPair b3 O x v := gO3
  refine wpAny_bind (wpAny_letGo (wpAny_pure (wpAny_bind (wpAny_bind (wpAny_onRaise (show wpAny _ _ (Builtin.SmallTypes.nextOf (.ref p2) >>= _) _ _ _ from wpAny_bind (F2.item (F2.keep (F2.keep (F2.keep f2 e1.extBut D.i2z) e2.extBut D.i12.symm) e3.extBut D.TOi2.symm) (F2.hold (F2.hold (F2.hold s2 e1.extBut D.l2z) e2.extBut D.l2i1) e3.extBut D.l2TO) ey fun b4 f2b e4 => wpAny_pure ?_)))))))
  have gO4 : IsPair b4 O x v := e4.extBut _ _ D.TOi2 gO3
  refine wpAny_bind (wpAny_seqItems gO4 rfl (wpAny_bind (wpAny_updateSeq_pair gO4 fun b5 gO5 e5 => ?_)))
  replace gO5 : IsPair b5 O x y := gO5
  refine wpAny_bind (wpAny_letGo (wpAny_pure (wpAny_pure (wpAny_bind (wpAny_seqItems gO5 rfl (wpAny_bind (wpAny_newTuple ?_)))))))
  have size5 : b5.objs.size = s.heap.objs.size := by rw [e5.1, e4.1, e3.1, e2.1, e1.1]
  have gz5 : IsZip b5 Z I O .ellipsis := e5.extBut _ _ D.TOz.symm (e4.extBut _ _ D.i2z.symm (e3.extBut _ _ D.TOz.symm (e2.extBut _ _ D.i1z.symm gz1)))
  have kept5 : ∀ c o, c ≠ Z → c ≠ O → c ≠ p1 → c ≠ p2 → s.heap.get? c = some o → b5.get? c = some o := fun c o n1 n2 n3 n4 q => e5.extBut _ _ n2 (e4.extBut _ _ n4 (e3.extBut _ _ n2 (e2.extBut _ _ n3 (e1.extBut _ _ n1 q))))
  have f15 : a1 b5 p1 m1 (k1 + 1) := F1.keep (F1.keep (F1.keep f1b e3.extBut D.TOi1.symm) e4.extBut D.i12) e5.extBut D.TOi1.symm
  have f25 : a2 b5 p2 m2 (k2 + 1) := F2.keep f2b e5.extBut D.TOi2.symm
  have ltZ : Z < b5.objs.size := Heap.lt_size gz5
  refine show wpAny _ _ (Builtin.SmallTypes.ownedTupleHandOut (.ref Z) (.ref b5.objs.size) >>= _) _ _ _ from wpAny_bind ?_
  unfold Builtin.SmallTypes.ownedTupleHandOut
  have gz6 : IsZip (b5.push { cls := .type "tuple", data := .seq #[x, y] }) Z I O .ellipsis := Heap.get?_push_of_some _ gz5
  refine wpAny_bind (wpAny_setField_rec gz6 (by simp) fun b7 gz7 e7 => ?_)
  replace gz7 : IsZip b7 Z I O (rawInt b5.objs.size) := gz7
  refine wpAny_setField_rec gz7 (by simp) fun b8 gz8 e8 => ?_
  replace gz8 : IsZip b8 Z I O (rawInt b5.objs.size) := gz8
  have up : ∀ c o, c ≠ Z → b5.get? c = some o → b8.get? c = some o := fun c o n q => e8.extBut _ _ n (e7.extBut _ _ n (Heap.get?_push_of_some _ q))
  have gT : IsPair b8 b5.objs.size x y := e8.extBut _ _ (Nat.ne_of_gt ltZ) (e7.extBut _ _ (Nat.ne_of_gt ltZ) (Heap.get?_push_size _ rfl))
  have size8 : b8.objs.size = b5.objs.size + 1 := by rw [e8.1, e7.1, Heap.size_push]
  rw [size5] at gz8 gT size8
  refine wpAny_pure ⟨_, rfl, show Q (.ref b5.objs.size) _ from ?_⟩
  rw [size5]
  exact fin b8 gz8 (up _ _ D.TOz gO5) (F1.same f15 fun o q => up _ o D.i1z q) (F2.same f25 fun o q => up _ o D.i2z q) gT size8 fun c o n1 n2 n3 n4 q => up c o n1 (kept5 c o n1 n2 n3 n4 q)
theorem zg_last {Z I O p1 p2 m1 m2 : Addr} {k1 k2 : Nat} {xs ys : Array Value} {u v : Value} {Q : Fin → Shared → Prop} (F1 : Feed a1 c1) (F2 : Feed a2 c2) (hh : A.handled = none) (D : ZipApart Z I O p1 p2 m1 m2) (gz : IsZip s.heap Z I O .none) (gI : IsPair s.heap I (.ref p1) (.ref p2)) (gO : IsPair s.heap O u v)
    (f1 : a1 s.heap p1 m1 k1) (f2 : a2 s.heap p2 m2 k2) (s1 : c1 s.heap m1 xs) (s2 : c2 s.heap m2 ys) (en : xs[k1]? = none ∨ ys[k2]? = none)
    (out : ∀ h' e, (∀ c o, c ≠ Z → c ≠ O → c ≠ p1 → c ≠ p2 → s.heap.get? c = some o → h'.get? c = some o) → (∃ o, h'.get? e = some o ∧ o.cls = .type "StopIteration") → E (.ref e) { s with heap := h' }) :
    wpAny (model prog w) A (Builtin.«zip.__next__» ⟨[.ref Z], []⟩) Q E s := by
  refine show wpAny _ _ (field (.ref Z) 2 >>= _) _ _ _ from wpAny_bind (wpAny_field gz rfl (x := .bool false) rfl (show wpAny _ _ (field (.ref Z) 3 >>= _) _ _ _ from wpAny_bind (wpAny_field gz rfl (x := .ref I) rfl (wpAny_bind (wpAny_seqItems gI rfl ?_)))))
  refine show wpAny _ _ (Builtin.SmallTypes.ownedTupleIsFree (.ref Z) >>= _) _ _ _ from wpAny_bind ?_
  unfold Builtin.SmallTypes.ownedTupleIsFree; refine wpAny_bind (wpAny_field gz rfl (x := .none) rfl (wpAny_pure ?_)); simp only [if_true]
  refine wpAny_bind (wpAny_rule (wpAny_bind (wpAny_field gz rfl (x := .ref O) rfl (wpAny_bind (wpAny_setField_rec gz (by simp) fun b1 gz1 e1 => ?_)))))
  replace gz1 : IsZip b1 Z I O .ellipsis := gz1
  refine wpAny_bind ?_; simp only [List.zipIdx_cons, List.zipIdx_nil, List.forIn_cons, List.forIn_nil]
  refine wpAny_bind (wpAny_bind (wpAny_onRaise (show wpAny _ _ (Builtin.SmallTypes.nextOf (.ref p1) >>= _) _ _ _ from ?_)))
  cases ex : xs[k1]? with
  | none =>
    refine wpAny_bind (F1.last hh (F1.keep f1 e1.extBut D.i1z) (F1.hold s1 e1.extBut D.l1z) ex fun b2 e q2 ⟨oe, g, cls⟩ => ?_)
    have gz2 : IsZip b2 Z I O .ellipsis := q2 _ _ D.i1z.symm gz1
    have ne : e ≠ Z := fun z => by rw [z, gz2] at g; cases g; simp at cls
    exact wpAny_setField_rec gz2 (by simp) fun b3 _ e3 => out b3 e (fun c o n1 _ n3 _ q => e3.extBut _ _ n1 (q2 _ _ n3 (e1.extBut _ _ n1 q))) ⟨oe, e3.extBut _ _ ne g, cls⟩
  | some x =>
    have ey : ys[k2]? = none := en.resolve_left fun z => by rw [ex] at z; cases z
    refine wpAny_bind (F1.item (F1.keep f1 e1.extBut D.i1z) (F1.hold s1 e1.extBut D.l1z) ex fun b2 f1b e2 => wpAny_pure ?_)
    have gO2 : IsPair b2 O u v := e2.extBut _ _ D.TOi1 (e1.extBut _ _ D.TOz gO)
    refine wpAny_bind (wpAny_seqItems gO2 rfl (wpAny_bind (wpAny_updateSeq_pair gO2 fun b3 gO3 e3 => ?_)))
    refine wpAny_bind (wpAny_letGo (wpAny_pure (wpAny_bind (wpAny_bind (wpAny_onRaise (show wpAny _ _ (Builtin.SmallTypes.nextOf (.ref p2) >>= _) _ _ _ from ?_))))))
    refine wpAny_bind (F2.last hh (F2.keep (F2.keep (F2.keep f2 e1.extBut D.i2z) e2.extBut D.i12.symm) e3.extBut D.TOi2.symm) (F2.hold (F2.hold (F2.hold s2 e1.extBut D.l2z) e2.extBut D.l2i1) e3.extBut D.l2TO) ey fun b4 e q4 ⟨oe, g, cls⟩ => ?_)
    have gz4 : IsZip b4 Z I O .ellipsis := q4 _ _ D.i2z.symm (e3.extBut _ _ D.TOz.symm (e2.extBut _ _ D.i1z.symm gz1))
    have ne : e ≠ Z := fun z => by rw [z, gz4] at g; cases g; simp at cls
    exact wpAny_setField_rec gz4 (by simp) fun b5 _ e5 => out b5 e (fun c o n1 n2 n3 n4 q => e5.extBut _ _ n1 (q4 _ _ n4 (e3.extBut _ _ n2 (e2.extBut _ _ n3 (e1.extBut _ _ n1 q))))) ⟨oe, e5.extBut _ _ ne g, cls⟩
end
end Pd

/-! zip(a tuple, a list): made and walked. -/
namespace Pd
open PySem L2 PySem.Spec PyProof.Rows
section
variable {prog : Program} {w : World} {A : Around} {E : Value → Shared → Prop} {s : Shared}
theorem zg_next {a1 a2 : Heap → Addr → Addr → Nat → Prop} {c1 c2 : Heap → Addr → Array Value → Prop} {Z I O p1 p2 m1 m2 : Addr} {k1 k2 : Nat} {xs ys : Array Value} {x y u v : Value} {Q : Option Value → Shared → Prop} (F1 : Feed a1 c1) (F2 : Feed a2 c2) (D : ZipApart Z I O p1 p2 m1 m2) (gz : IsZip s.heap Z I O .none) (gI : IsPair s.heap I (.ref p1) (.ref p2)) (gO : IsPair s.heap O u v)
    (f1 : a1 s.heap p1 m1 k1) (f2 : a2 s.heap p2 m2 k2) (s1 : c1 s.heap m1 xs) (s2 : c2 s.heap m2 ys) (ex : xs[k1]? = some x) (ey : ys[k2]? = some y)
    (fin : ∀ h', IsZip h' Z I O (rawInt s.heap.objs.size) → IsPair h' O x y → a1 h' p1 m1 (k1 + 1) → a2 h' p2 m2 (k2 + 1) → IsPair h' s.heap.objs.size x y → h'.objs.size = s.heap.objs.size + 1 → (∀ c o, c ≠ Z → c ≠ O → c ≠ p1 → c ≠ p2 → s.heap.get? c = some o → h'.get? c = some o) → Q (some (.ref s.heap.objs.size)) { s with heap := h' }) :
    wpAny (model prog w) A (pyNext (.ref Z)) Q E s := by
  have ty : s.TypeIs (.ref Z) "zip" := ⟨_, gz, rfl⟩
  unfold pyNext
  exact wpAny_bind (wpAny_attempt (wpAny_callSpecial?_slot (name := Str.ofString "__next__") ty F.slot_zip_next (wpAny_call_entry F.slot_zip_next ty F.entry_zip_next (zg_item F1 F2 D gz gI gO f1 f2 s1 s2 ex ey fun h' q1 q2 q3 q4 q5 q6 q7 => wpAny_pure (fin h' q1 q2 q3 q4 q5 q6 q7)) (F.args_zip_next_1 _))))
theorem zg_end {a1 a2 : Heap → Addr → Addr → Nat → Prop} {c1 c2 : Heap → Addr → Array Value → Prop} {Z I O p1 p2 m1 m2 : Addr} {k1 k2 : Nat} {xs ys : Array Value} {u v : Value} {Q : Option Value → Shared → Prop} (F1 : Feed a1 c1) (F2 : Feed a2 c2) (hh : A.handled = none) (D : ZipApart Z I O p1 p2 m1 m2) (gz : IsZip s.heap Z I O .none) (gI : IsPair s.heap I (.ref p1) (.ref p2)) (gO : IsPair s.heap O u v)
    (f1 : a1 s.heap p1 m1 k1) (f2 : a2 s.heap p2 m2 k2) (s1 : c1 s.heap m1 xs) (s2 : c2 s.heap m2 ys) (en : xs[k1]? = none ∨ ys[k2]? = none)
    (fin : ∀ h', (∀ c o, c ≠ Z → c ≠ O → c ≠ p1 → c ≠ p2 → s.heap.get? c = some o → h'.get? c = some o) → Q none { s with heap := h' }) : wpAny (model prog w) A (pyNext (.ref Z)) Q E s := by
  have ty : s.TypeIs (.ref Z) "zip" := ⟨_, gz, rfl⟩
  unfold pyNext
  refine wpAny_bind (wpAny_attempt (wpAny_callSpecial?_slot (name := Str.ofString "__next__") ty F.slot_zip_next (wpAny_call_entry F.slot_zip_next ty F.entry_zip_next (zg_last F1 F2 hh D gz gI gO f1 f2 s1 s2 en fun h' e kp ⟨o, g, cls⟩ => wpAny_bind (wpAny_isInstance (T := "StopIteration") (b := true) ⟨o, g, cls⟩ isSubtype_stop (wpAny_pure (fin _ kp)))) (F.args_zip_next_1 _))))
/-! made -/
abbrev zm1 (h : Heap) (l : Addr) : Heap := h.push { cls := .type "tuple_iterator", data := .fields #[.ref l, .int 0 0] }
abbrev zm2 (h : Heap) (l m : Addr) : Heap := (zm1 h l).push { cls := .type "list_iterator", data := .fields #[.ref m, .int 0 0] }
abbrev zm3 (h : Heap) (l m : Addr) : Heap := (zm2 h l m).push { cls := .type "tuple", data := .seq #[.ref h.objs.size, .ref (zm1 h l).objs.size] }
abbrev zm4 (h : Heap) (l m : Addr) : Heap := (zm3 h l m).push { cls := .type "tuple", data := .seq #[.none, .none] }
abbrev zm5 (h : Heap) (l m : Addr) : Heap := (zm4 h l m).push { cls := .type "zip", data := .fields #[.none, .bool false, .bool false, .ref (zm2 h l m).objs.size, .ref (zm3 h l m).objs.size] }
theorem zm_new (l m : Addr) (xs ys : Array Value) : Meets (Builtin.«zip.__new__» ⟨[.type "zip", .ref l, .ref m], []⟩) (fun _ R s => s.heap.IsTuple l xs ∧ s.heap.IsList m ys ∧ R (.ok (.ret (.ref (zm4 s.heap l m).objs.size))) { s with heap := zm5 s.heap l m }) :=
  .of_wp fun prog w A R s q => by
    obtain ⟨hp, gs, dr, tk, o⟩ := s; obtain ⟨t1, t2, q⟩ := q
    have sz := sub_zip
    have T1 : Heap.IsTuple (Shared.heap ⟨hp, gs, dr, tk, o⟩) l xs := t1
    have T2 : Heap.IsList (Shared.heap ⟨hp.push { cls := .type "tuple_iterator", data := .fields #[.ref l, .int 0 0] }, gs, dr, tk, o⟩) m ys := Heap.IsList.push t2 _
    wp_walk using wpAny_pyIter_tuple T1, wpAny_pyIter_list T2
    exact ⟨_, rfl, q⟩
theorem call_zm {l m : Addr} {xs ys : Array Value} {Q : Value → Shared → Prop} (t1 : s.heap.IsTuple l xs) (t2 : s.heap.IsList m ys)
    (q : ∀ h', IsZip h' (s.heap.objs.size + 4) (s.heap.objs.size + 2) (s.heap.objs.size + 3) .none → IsPair h' (s.heap.objs.size + 2) (.ref s.heap.objs.size) (.ref (s.heap.objs.size + 1)) → IsPair h' (s.heap.objs.size + 3) .none .none → h'.IsTupleIter s.heap.objs.size l 0 → h'.IsListIter (s.heap.objs.size + 1) m 0 → (∀ c o, s.heap.get? c = some o → h'.get? c = some o) → Q (.ref (s.heap.objs.size + 4)) { s with heap := h' }) :
    wpAny (model prog w) A (call (.type "zip") [.ref l, .ref m]) Q E s := by
  refine callType_new F.called_zip (by decide) (F.typeCall_zip_2 _ _) (F.newCall_zip_2 _ _) (fun obj => F.args_object_init_3 obj _ _) F.entry_zip_new (zm_new l m xs ys) ⟨t1, t2, ?_⟩
  have n1 : (zm1 s.heap l).objs.size = s.heap.objs.size + 1 := Heap.size_push ..
  have n2 : (zm2 s.heap l m).objs.size = s.heap.objs.size + 2 := (Heap.size_push ..).trans (by rw [n1])
  have n3 : (zm3 s.heap l m).objs.size = s.heap.objs.size + 3 := (Heap.size_push ..).trans (by rw [n2])
  have n4 : (zm4 s.heap l m).objs.size = s.heap.objs.size + 4 := (Heap.size_push ..).trans (by rw [n3])
  have up := fun (h : Heap) (o : Obj) {c : Addr} {o' : Obj} (z : h.get? c = some o') => Heap.get?_push_of_some o z
  have k5 : (zm5 s.heap l m).get? (zm4 s.heap l m).objs.size = some _ := Heap.get?_push_size _ rfl
  have k4 : (zm5 s.heap l m).get? (zm3 s.heap l m).objs.size = some _ := up _ _ (Heap.get?_push_size _ rfl)
  have k3 : (zm5 s.heap l m).get? (zm2 s.heap l m).objs.size = some _ := up _ _ (up _ _ (Heap.get?_push_size _ rfl))
  have k2 : (zm5 s.heap l m).get? (zm1 s.heap l).objs.size = some _ := up _ _ (up _ _ (up _ _ (Heap.get?_push_size _ rfl)))
  have k1 : (zm5 s.heap l m).get? s.heap.objs.size = some _ := up _ _ (up _ _ (up _ _ (up _ _ (Heap.get?_push_size _ rfl))))
  refine show _ ∧ _ from ?_
  rw [n2, n3, n4] at k5
  rw [n1, n2] at k3
  rw [n3] at k4
  rw [n1] at k2
  rw [n4]
  exact ⟨⟨_, k5, rfl⟩, q _ k5 k3 k4 ⟨_, k1, rfl, rfl⟩ ⟨_, k2, rfl, rfl⟩ fun c o z => up _ _ (up _ _ (up _ _ (up _ _ (up _ _ z))))⟩
end
end Pd

/-! for .. in zip(a tuple, a list) -/
namespace Pd
open PySem L2 PySem.Spec PyProof.Rows
/-- a tuple at a and a list at b, walked together -/
def ItzM (K : PySem.W.Frag) (a b : Addr) : It where
  go i H := ∃ (xs ys : List V) (x y : V), SqT K H a xs ∧ SqL K H b ys ∧ xs[i]? = some x ∧ ys[i]? = some y
  yld i H v H' := ∃ T x y, v = .ref T ∧ H T = none ∧ H' = upd H T (.tup [x, y]) ∧ (∀ xs, SqT K H a xs → xs[i]? = some x) ∧ ∀ ys, SqL K H b ys → ys[i]? = some y
  stop i H := ∃ xs ys : List V, SqT K H a xs ∧ SqL K H b ys ∧ (xs.length ≤ i ∨ ys.length ≤ i)
theorem five {Z I O p1 p2 c : Addr} (h : c ∈ [Z, I, O, p1, p2]) : c = Z ∨ c = I ∨ c = O ∨ c = p1 ∨ c = p2 := by simpa using h
theorem turn_zm {P : Program} {w : World} {K : PySem.W.Frag} {elts : List Expr} {kk : Nat} {tpos : Pos} {a b Z I O p1 p2 : Addr} (D : ZipApart Z I O p1 p2 a b) :
    Turn P w K (.Tuple elts kk tpos) (ItzM K a b) [Z, I, O, p1, p2] Z (fun i h => IsZip h Z I O .none ∧ IsPair h I (.ref p1) (.ref p2) ∧ (∃ x y, IsPair h O x y) ∧ h.IsTupleIter p1 a i ∧ h.IsListIter p2 b i) where
  mem := List.mem_cons_self
  obj := fun i h st c hc => by
    obtain ⟨gz, gI, ⟨x, y, gO⟩, f1, f2⟩ := st
    rcases five hc with q | q | q | q | q <;> subst q
    · exact ⟨_, gz, nofun⟩
    · exact ⟨_, gI, nofun⟩
    · exact ⟨_, gO, nofun⟩
    · exact feedT.obj f1
    · exact feedL.obj f2
  keep := fun i h h' st kp => by
    obtain ⟨gz, gI, ⟨x, y, gO⟩, f1, f2⟩ := st
    exact ⟨kp Z (by simp) _ gz, kp I (by simp) _ gI, ⟨x, y, kp O (by simp) _ gO⟩, feedT.same f1 fun o => kp p1 (by simp) o, feedL.same f2 fun o => kp p2 (by simp) o⟩
  item := by
    intro X eP ew eK calm i pins s σ H E J fp st go
    subst eP ew eK
    obtain ⟨gz, gI, ⟨u0, v0, gO⟩, f1, f2⟩ := st
    obtain ⟨xs, ys, x, y, qa, qb, hx, hy⟩ := go
    obtain ⟨its, rv, t1, _⟩ := J.tuple qa
    obtain ⟨its2, rv2, t2, _⟩ := J.list qb
    obtain ⟨u, hu, ru⟩ := rv.get hx
    obtain ⟨v, hv, rv'⟩ := rv2.get hy
    have ltZ : Z < s.heap.objs.size := Heap.lt_size gz
    refine zg_next feedT feedL D gz gI gO f1 f2 (show s.heap.IsTuple a its.toArray from t1) t2.isList (x := u) (y := v) (by simpa using hu) (by simpa using hv) fun b1 gz1 gO1 f1b f2b gT size kp => ?_
    refine ⟨_, rfl, wpAny_letOwnedTupleGo_zip (s := { s with heap := b1 }) gz1 fun b2 gz2 but => ?_⟩
    have gT2 : b2.get? s.heap.objs.size = some { cls := .type "tuple", data := .seq #[u, v] } := (but.2 _ (Nat.ne_of_gt ltZ)).trans gT
    have made : ObjOk X.prog X.w (upd H s.heap.objs.size (.tup [x, y])) b2 s.heap.objs.size (.tup [x, y]) := ⟨by show 2 ≤ sizeLine; decide, [u, v], .cons ru (.cons rv' .nil), ⟨_, gT2, rfl, _, rfl⟩⟩
    have away : ∀ c o, c ∉ [Z, I, O, p1, p2] → s.heap.get? c = some o → b2.get? c = some o := fun c o n q => (but.2 c fun z => n (by simp [z])).trans (kp c o (fun z => n (by simp [z])) (fun z => n (by simp [z])) (fun z => n (by simp [z])) (fun z => n (by simp [z])) q)
    have J1 : Inv X pins σ (upd H s.heap.objs.size (.tup [x, y])) { s with heap := b2 } := J.turnedNew (t' := s.toks) away fp (Nat.le_refl _) made
    refine ⟨.ref s.heap.objs.size, _, J1, rfl, ⟨_, x, y, rfl, J.hok.fresh (Nat.le_refl _), rfl, fun l hl => by rw [J.tuple_inj hl qa]; exact hx, fun l hl => by rw [J.list_inj hl qb]; exact hy⟩, ⟨gz2, (but.2 _ D.TIz).trans (kp _ _ D.TIz D.TITO D.TIi1 D.TIi2 gI), ⟨u, v, (but.2 _ D.TOz).trans gO1⟩, feedT.same f1b fun o q => (but.2 _ D.i1z).trans q, feedL.same f2b fun o q => (but.2 _ D.i2z).trans q⟩, fun c hc => ?_⟩
    have lt : c < s.heap.objs.size := by
      rcases five hc with q | q | q | q | q <;> subst q
      · exact ltZ
      · exact Heap.lt_size gI
      · exact Heap.lt_size gO
      · exact Heap.lt_size f1.choose_spec.1
      · exact Heap.lt_size f2.choose_spec.1
    rw [upd_ne (Nat.ne_of_lt lt)]
    exact (fp c hc).1
  done := by
    intro X eP ew eK calm i pins s σ H E J fp st stop
    subst eP ew eK
    obtain ⟨gz, gI, ⟨u0, v0, gO⟩, f1, f2⟩ := st
    obtain ⟨xs, ys, qa, qb, en⟩ := stop
    obtain ⟨its, rv, t1, _⟩ := J.tuple qa
    obtain ⟨its2, rv2, t2, _⟩ := J.list qb
    have l1 := rv.length
    have l2 := rv2.length
    have none : its.toArray[i]? = none ∨ its2.toArray[i]? = none := en.imp (fun q => by simp; omega) fun q => by simp; omega
    exact zg_end feedT feedL (J.ok.hd calm) D gz gI gO f1 f2 (show s.heap.IsTuple a its.toArray from t1) t2.isList none fun b1 kp => ⟨rfl, J.turnedL (t' := s.toks) (ch := [Z, I, O, p1, p2]) (fun c o n q => kp c o (fun z => n (by simp [z])) (fun z => n (by simp [z])) (fun z => n (by simp [z])) (fun z => n (by simp [z])) q) fp⟩
  self := fun A i s Q E st h => wpAny_pyIter_zip st.1 h
def iZipM (K : PySem.W.Frag) (ta : TA) : L2.TI := fun σ H R => ta σ H fun vs H1 => ∃ a b xs ys, vs = [.ref a, .ref b] ∧ SqT K H1 a xs ∧ SqL K H1 b ys ∧ R (ItzM K a b) H1
theorem pi_zipM {X : Cx} {e e2 : Expr} {ta : TA} {p pos tpos : Pos} {elts : List Expr} {kk : Nat} (hg : Gl X "zip") (hm : X.mg "zip" = none) (ha : PA X [e, e2] ta)
    (hs : starEach [e, e2] X.env = (false, eval e X.env) :: starEach [e2] X.env := by rfl) (hpl : (backTo pos (starEach [e2] X.env)).any (·.1) = false := by rfl) :
    PI X (.Tuple elts kk tpos) (.Call (.Name "zip" p) [e, e2] [] pos) (iZipM X.K ta) := by
  refine ⟨fun pins s σ H R J h => Call_ (ld_blt J hg hm PyProof.Rows.boot_zip (PyProof.Rows.callWith_type1 (thn (ha.run pos pins s σ H _ J h) fun us s1 ⟨vs, H1, J1, r1, q1⟩ => ?_) hs hpl))⟩
  obtain ⟨a, b, xs, ys, rfl, qa, qb, q⟩ := q1
  obtain ⟨u1, u2, rfl, r, r'⟩ := vals2 r1
  cases r
  cases r'
  obtain ⟨its, rv, t1, _⟩ := J1.tuple qa
  obtain ⟨its2, rv2, t2, _⟩ := J1.list qb
  have lta : a < s1.heap.objs.size := by obtain ⟨o1, g, _⟩ := id t1; exact Heap.lt_size g
  refine call_zm (show s1.heap.IsTuple a its.toArray from t1) t2.isList fun b1 gz gI gO f1 f2 kp => wpAny_pyIter_zip gz ?_
  have J2 : Inv X pins σ H1 { s1 with heap := b1 } := J1.kept (t' := s1.toks) kp
  refine ⟨s1.heap.objs.size + 4, [s1.heap.objs.size + 4, s1.heap.objs.size + 2, s1.heap.objs.size + 3, s1.heap.objs.size, s1.heap.objs.size + 1], _, _, H1, rfl, J2, turn_zm (PySem.W.ktu_apart s1.heap.objs.size a b lta t2.lt), ⟨gz, gI, ⟨_, _, gO⟩, f1, f2⟩, fun c hc => ?_, q⟩
  have le : s1.heap.objs.size ≤ c := by
    rcases five hc with z | z | z | z | z <;> rw [z] <;> omega
  exact J1.fpOk le (J1.hok.fresh le)
/-- zip of a tuple and a list, or of two tuples -/
def zipM : List D → T (List D)
  | [.tup as, .lst bs] => .ret (zipD as bs)
  | _ => .fail
section
variable {X : Cx} {a b : Expr} {pos : Pos}
theorem walk_zipM {π : Addr} {N : Addr → Bool} {H : Hp} {a b : Addr} {as bs : List D} {us : List V} (r : Rv X.K X.prog X.w π (Hide N H) (.ref a) (.tup as)) (hb : H b = some (.lst us)) (nb : N b = false) (bp : b ≠ π) (rb : RvL X.K X.prog X.w π (Hide N H) us bs) : Walk X π (Hide N H) (ItzM X.K a b) (zipD as bs) := fun N' H' i hn k => by
  obtain ⟨a', vs, e, _, sq, _, ra⟩ := sqt_kp k r
  cases e
  obtain ⟨nb', hb'⟩ := vis_some k nb bp hb
  have sq2 : SqL X.K H' b us := .inl (.inl hb')
  have rb' := rb.mono k
  refine ⟨fun d hd => ?_, fun e => ⟨vs, us, sq, sq2, ?_⟩⟩
  · obtain ⟨x, y, hx, hy, rfl⟩ := zipD_get hd
    obtain ⟨v, hv, rv⟩ := ra.get hx
    obtain ⟨u, hu, ru⟩ := rb'.get hy
    refine ⟨⟨vs, us, v, u, sq, sq2, hv, hu⟩, fun z H2 q => ?_⟩
    obtain ⟨T, x', y', rfl, hT, rfl, g1, g2⟩ := q
    have e1 := g1 vs sq
    have e2 := g2 us sq2
    rw [hv] at e1
    rw [hu] at e2
    cases e1; cases e2
    have nw := Ex.new (o := .tup [v, u]) hn.pot hT
    exact ⟨nw, .tup (hide_new (hn.new hT)) (hn.pot.ne hT) (.cons (rv.mono nw.kp.hide) (.cons (ru.mono nw.kp.hide) .nil))⟩
  · rw [zipD_len] at e
    rw [ra.length, rb.length]
    omega
theorem si_zipM {ms : Rho → T (List D)} {p tpos : Pos} {elts : List Expr} {kk : Nat} (hm : X.mg "zip" = none) (ha : SndA X [a, b] ms) (hg : Gl X "zip" := by rfl) (hs : starEach [a, b] X.env = (false, eval a X.env) :: starEach [b] X.env := by rfl) (hpl : (backTo pos (starEach [b] X.env)).any (·.1) = false := by rfl) :
    SndI X (.Tuple elts kk tpos) (.Call (.Name "zip" p) [a, b] [] pos) (iRg zipM ms) := fun {π N0 H0 N H σ ρ R} I h => ⟨_, pi_zipM hg hm pa_wp hs hpl, ha I (T.all_mono (fun ds hd => by
    intro vs H2 e2 r
    unfold zipM at hd
    split at hd
    · cases r with
      | cons r t => cases t with
        | cons r2 t =>
          cases t
          obtain ⟨a, vs, rfl, ha, ra⟩ := id r.tupE
          obtain ⟨b, us, rfl, hb, nb, bp, rb⟩ := id r2.lstE
          exact ⟨a, b, vs, us, rfl, ha, .inl (.inl hb), hd _ _ e2 (walk_zipM r hb nb bp rb)⟩
    · exact False.elim hd) (T.all_bind.mp h))⟩
end
end Pd

/-! A name that is a list or a tuple, walked; max(a list of ints); is not, of bools; == and != with instances, by promises. -/
namespace Pd
open PySem L2 PySem.Spec PyProof.Rows
def iSq (i : Nat) : Rho → T (List D) := fun ρ => match ρ[i]? with
  | some (.val (.lst ds)) => .ret ds
  | some (.val (.tup ds)) => .ret ds
  | _ => .fail
def maxI : List Int → Int → Int
  | [], m => m
  | n :: ns, m => maxI ns (if n > m then n else m)
theorem maxI_ge : ∀ (ns : List Int) (m : Int), m ≤ maxI ns m ∧ ∀ y ∈ ns, y ≤ maxI ns m
  | [], m => ⟨Int.le_refl _, fun _ h => (List.not_mem_nil h).elim⟩
  | n :: ns, m => by
    obtain ⟨a, b⟩ := maxI_ge ns (if n > m then n else m)
    have c : m ≤ (if n > m then n else m) ∧ n ≤ (if n > m then n else m) := by split <;> omega
    refine ⟨Int.le_trans c.1 a, fun y h => ?_⟩
    rcases List.mem_cons.mp h with e | e
    · subst e; exact Int.le_trans c.2 a
    · exact b y e
theorem maxI_le {b : Int} : ∀ (ns : List Int) (m : Int), m ≤ b → (∀ y ∈ ns, y ≤ b) → maxI ns m ≤ b
  | [], m, h, _ => h
  | n :: ns, m, h, g => maxI_le ns _ (by have := g n List.mem_cons_self; split <;> omega) fun y hy => g y (List.mem_cons_of_mem _ hy)
def bMaxL : List D → T D
  | [.lst (.int m :: ds)] => match intsOf ds with
    | some ns => .ret (.int (maxI ns m))
    | none => .fail
  | _ => .fail
def opIsNot : D → D → T D
  | .bl i, .bl j => .ret (.bl (!decide (i = j)))
  | _, _ => .fail
section
variable {X : Cx} {tg : Expr}
theorem si_sq (i : Nat) {x : Str} {pos : Pos} (hN : X.N[i]? = some x := by rfl) (hv : Vis X.env.scope x := by first | exact Or.inl rfl | exact Or.inr (Or.inl rfl) | exact Or.inr (Or.inr rfl)) (hd : (x == ("__debug__" : Str)) = false := by decide)
    (hcd : (x == ("__classdict__" : Str)) = false := by decide) : SndI X tg (.Name x pos) (iSq i) := fun {π N0 H0 N H σ ρ R} I h => by
  unfold iSq at h
  split at h
  · rename_i ds e
    refine si_list (m := eVar i) (sv i hN hv hd hcd) I ?_
    unfold iLst eVar
    rw [e]
    exact h
  · rename_i ds e
    refine si_tup (m := eVar i) (sv i hN hv hd hcd) I ?_
    unfold iTp eVar
    rw [e]
    exact h
  · exact False.elim h
theorem cs_maxL (hc : X.calm = true) : CaSnd X (.builtin "max") bMaxL := fun {π N H xs ds Q} hn r h => by
  unfold bMaxL at h
  split at h
  · rename_i m ds
    cases r with
    | cons r t =>
      cases t
      split at h
      · rename_i ns e
        obtain ⟨a, vs, rfl, ha, _, _, ra⟩ := id r.lstE
        have e2 : intsOf (.int m :: ds) = some (m :: ns) := by unfold intsOf; rw [e]
        refine ⟨_, cr_max hc, a, m :: ns, rfl, by rw [← ints_rv ra e2]; exact .inl (.inl ha), Nat.succ_pos _, fun z hz hy => ?_⟩
        obtain ⟨g1, g2⟩ := maxI_ge ns m
        have l : z ≤ maxI ns m := by
          rcases List.mem_cons.mp hz with q | q
          · subst q; exact g1
          · exact g2 z q
        have l2 : maxI ns m ≤ z := maxI_le ns m (hy m List.mem_cons_self) fun y h => hy y (List.mem_cons_of_mem _ h)
        rw [Int.le_antisymm l l2]
        exact h _ _ (Ex.refl hn.pot) (.int _)
      · exact False.elim h
  · exact False.elim h
theorem os_isNot : OpSnd X (compareOp .IsNot) opIsNot := fun {π N H x y dx dy Q} hn rx ry h => by
  unfold opIsNot at h
  split at h
  · rename_i i j
    have e1 := rx.bool
    have e2 := ry.bool
    subst e1 e2
    exact ⟨_, L2.op_notBl, i, j, rfl, rfl, h _ _ (Ex.refl hn.pot) (.bl _)⟩
  · exact False.elim h
/-- where the one reads, or else the other -/
def opOr (f g : D → D → T D) (p : D → D → Bool) : D → D → T D := fun x y => cond (p x y) (f x y) (g x y)
theorem os_or {op : Value → Value → Sem Value} {f g : D → D → T D} {p : D → D → Bool} (hf : OpSnd X op f) (hg : OpSnd X op g) : OpSnd X op (opOr f g p) := fun {π N H x y dx dy Q} hn rx ry h => by
  unfold opOr at h
  cases e : p dx dy with
  | true => rw [e] at h; exact hf hn rx ry h
  | false => rw [e] at h; exact hg hn rx ry h
end
/-- two instances by their class's own == -/
def SmP (P : Program) (w : World) (K : PySem.W.Frag) (mg : Str → Option Value) (base : Heap) (k : Nat) (E : D → D → Bool) : Prop := ∀ (c c2 : Str) (fs gs : List (Str × D)), E (.ins c fs) (.ins c2 gs) = true → ∃ (C f : Addr) (fd : FuncData) (ps : List Str) (F : List D → T D), ClsAt K c C ∧ ClsAt K c2 C ∧ CmpOwn K C .Eq f ∧ FnOk P w K mg base CX0 k f fd ps (spD K P w 2 F) ∧ Binds K fd ps [] ∧ F [.ins c fs, .ins c2 gs] = .ret (.bl true) ∧
  PySem.W.findIn K (.ref C) "__ne__" = some (some (.builtin "object.__ne__")) ∧ PySem.W.mroIn K C (.type "object") = some true
theorem SmP.ok {X : Cx} {k : Nat} {E : D → D → Bool} (h : SmP X.prog X.w X.K X.mg X.base k E) : SameOk X k E := h
/-- alike by one class's == -/
def eOne (c0 : Str) (F : List D → T D) (x y : D) : Bool := match x, y with
  | .ins c fs, .ins c2 gs => c == c0 && c2 == c0 && (match F [.ins c fs, .ins c2 gs] with
    | .ret (.bl true) => true
    | _ => false)
  | _, _ => false
theorem SmP.of {P : Program} {w : World} {K : PySem.W.Frag} {mg : Str → Option Value} {base : Heap} {k : Nat} {c0 : Str} {F : List D → T D} (h : PmE P w K mg base c0 .Eq k F) (h1 : ∀ C, ClsAt K c0 C → PySem.W.findIn K (.ref C) "__ne__" = some (some (.builtin "object.__ne__")) ∧ PySem.W.mroIn K C (.type "object") = some true) : SmP P w K mg base k (eOne c0 F) := fun c c2 fs gs ht => by
  obtain ⟨C, f, fd, ps, at_, O, G, B⟩ := h
  unfold eOne at ht
  simp only [Bool.and_eq_true, beq_iff_eq] at ht
  obtain ⟨⟨e1, e2⟩, e3⟩ := ht
  subst e1
  subst e2
  refine ⟨C, f, fd, ps, F, at_, at_, O, G, B, ?_, (h1 C at_).1, (h1 C at_).2⟩
  split at e3
  · assumption
  · cases e3
end Pd
namespace Pd
open PySem L2 PySem.Spec PyProof.Rows
section
variable {X : Cx} {e : Expr} {m : Rho → T D} {pos : Pos}
/-- isinstance(e, the class), by promise -/
def IcP (K : PySem.W.Frag) (mg : Str → Option Value) (c : Str) : Prop := ∃ C, ClsAt K c C ∧ ClsTy K C ∧ mg c = some (.ref C)
theorem s_isinstIP {p p2 : Pos} (ic : IcP X.K X.mg "Ratio") (kn : KnownC X.K ["Ratio"]) (hm : X.mg "isinstance" = none) (ha : Snd X e m) (hg : Gl X "isinstance" := by rfl) (hgt : Gl X "Ratio" := by rfl)
    (he : starEach [e, .Name "Ratio" p] X.env = (false, eval e X.env) :: starEach [.Name "Ratio" p] X.env := by rfl) (he2 : starEach [.Name "Ratio" p] X.env = (false, eval (.Name "Ratio" p) X.env) :: starEach [] X.env := by rfl) (hpl : (backTo pos (starEach [.Name "Ratio" p] X.env)).any (·.1) = false := by rfl) :
    Snd X (.Call (.Name "isinstance" p2) [e, .Name "Ratio" p] [] pos) (eUn (isOC ["Ratio"] "Ratio") m) :=
  let ⟨_, a, b, c⟩ := ic
  s_isinstO ["Ratio"] kn a b (fun c C' h1 h2 _ => by
    have e : c = "Ratio" := by simpa using h1
    subst e
    exact absurd h2 (by decide +kernel)) hm c ha hg hgt (by decide +kernel) (by decide) he he2 hpl
end
end Pd

/-! Defs that give a new list: who calls them may change it. -/
namespace Pd
open PySem L2 PySem.Spec PyProof.Rows
/-- a new list is given -/
def spR (K : PySem.W.Frag) (P : Program) (w : World) (n : Nat) (F : List D → T (List D)) : Sp := fun vs H Q _ => ∃ (π : Addr) (N : Addr → Bool) (ds : List D), HN π N H ∧ RvL K P w π (Hide N H) vs ds ∧ vs.length = n ∧
  (F ds).all fun es => ∀ l us H', Ex π H H' → H l = none → H' l = some (.lst us) → RvL K P w π (Hide (plus N l) H') us es → Q (.ref l) H'
/-- the list as a value -/
def asD (F : List D → T (List D)) : List D → T D := fun ds => (F ds).bind fun es => .ret (.lst es)
theorem spR_of {K : PySem.W.Frag} {P : Program} {w : World} {n : Nat} {F : List D → T (List D)} : ∀ vs H Q E, spD K P w n (asD F) vs H Q E → spR K P w n F vs H Q E := fun vs H Q E ⟨π, N, ds, hn, r, hl, h⟩ =>
  ⟨π, N, ds, hn, r, hl, T.all_mono (fun es he l us H' e h1 h2 r2 => he (.ref l) H' e (.lst (by rw [hide_in (hn.new h1)]; exact h2) (hn.pot.ne h1) (r2.mono (Kp.less fun a h => plus_old h)))) (T.all_bind.mp h)⟩
def retOwn (i : Nat) : Rho → T (List D) := fun ρ => match ρ[i]? with
  | some (.own ds) => .ret ds
  | _ => .fail
def bSeqL (m : Rho → T Out) (ml : Rho → T (List D)) : Rho → T (List D) := fun ρ => (m ρ).bind fun o => match o with
  | .nx ρ' => ml ρ'
  | _ => .fail
def bFreezeL (i : Nat) (ml : Rho → T (List D)) : Rho → T (List D) := fun ρ => match ρ[i]? with
  | some (.own ds) => ml (ρ.set i (.val (.lst ds)))
  | _ => ml ρ
def lCallF (n : Nat) (F : List D → T (List D)) (ms : Rho → T (List D)) : Rho → T (List D) := fun ρ => (ms ρ).bind fun ds => cond (ds.length == n) (F ds) .fail
def runL (n : Nat) (ml : Rho → T (List D)) : List D → T (List D) := fun ds => ml (ds.map Ent.val ++ List.replicate (n - ds.length) Ent.un)
section
variable (X : Cx)
/-- statements, the last of which gives a new list -/
def SndBL (sts : List Stmt) (ml : Rho → T (List D)) : Prop := ∀ ⦃π : Addr⦄ ⦃N0 : Addr → Bool⦄ ⦃H0 : Hp⦄ ⦃N : Addr → Bool⦄ ⦃H : Hp⦄ ⦃σ : L2.St⦄ ⦃ρ : Rho⦄ ⦃De : Ends⦄, EnvOk X.K X.prog X.w π N0 H0 N H σ ρ →
  (ml ρ).all (fun es => ∀ l us H', Ex π H0 H' → H0 l = none → H' l = some (.lst us) → RvL X.K X.prog X.w π (Hide (plus N0 l) H') us es → De.rt (.ref l) H') → wpSs X sts De σ H
end
section
variable {X : Cx} {st : Stmt} {sts rest : List Stmt} {e : Expr} {es : List Expr} {m : Rho → T Out} {ml : Rho → T (List D)} {pos : Pos}
theorem EnvOk.newAt {K : PySem.W.Frag} {P : Program} {w : World} {π : Addr} {N0 N : Addr → Bool} {H0 H : Hp} {σ : L2.St} {ρ : Rho} {l : Addr} (I : EnvOk K P w π N0 H0 N H σ ρ) (h : H l = none) : H0 l = none := by
  cases c : H0 l with
  | none => rfl
  | some o => rw [I.ex l o (I.hn.pot.ne h) c] at h; cases h
theorem bl_ret (he : SndL X e ml) : SndBL X [.Return (some e) pos] ml := fun {π N0 H0 N H σ ρ De} I h =>
  ⟨_, pss_one (ps_ret pe_wp), he I (T.all_mono (fun ds hd => by
    intro l vs H2 e2 hl h2 r
    refine hd l vs H2 ⟨I.ex.trans e2.kp, e2.pot⟩ (I.newAt hl) h2 (r.mono (Kp.less fun a ha => ?_))
    rcases plus_or ha with z | z
    · exact plus_old (I.sub a z)
    · rw [z]; exact plus_self) h)⟩
theorem bl_retOwn (i : Nat) {x : Str} {p : Pos} (hN : X.N[i]? = some x := by rfl) (hv : Vis X.env.scope x := by first | exact Or.inl rfl | exact Or.inr (Or.inl rfl) | exact Or.inr (Or.inr rfl)) (hd : (x == ("__debug__" : Str)) = false := by decide)
    (hcd : (x == ("__classdict__" : Str)) = false := by decide) : SndBL X [.Return (some (.Name x p)) pos] (retOwn i) := fun {π N0 H0 N H σ ρ De} I h => by
  unfold retOwn at h
  split at h
  · rename_i ds c
    obtain ⟨l, vs, hs1, nl, n0, hl, rl⟩ := I.lst i ds c
    refine ⟨_, pss_one (ps_ret (pe_var hN hv hd hcd)), .ref l, hs1, ?_⟩
    have h0 : H0 l = none := by
      rcases I.own0 l nl with z | z
      · rw [n0] at z; cases z
      · exact z
    refine h l vs H ⟨I.ex, I.hn.pot⟩ h0 hl (rl.mono (Kp.less fun a ha => ?_))
    rcases plus_or ha with z | z
    · exact I.sub a z
    · rw [z]; exact nl
  · exact False.elim h
theorem bl_cons (h1 : SndS X st m) (h2 : SndBL X rest ml) : SndBL X (st :: rest) (bSeqL m ml) := fun {π N0 H0 N H σ ρ De} I h =>
  ⟨_, pss_cons ps_wp pss_wp, h1 I (T.all_mono (fun o ho => by
    cases o with
    | nx ρ' => exact fun N' H' σ' I' => h2 I' ho
    | rt d => exact False.elim ho
    | bk ρ' => exact False.elim ho
    | ct ρ' => exact False.elim ho) (T.all_bind.mp h))⟩
theorem bl_freeze (i : Nat) (h : SndBL X sts ml) : SndBL X sts (bFreezeL i ml) := fun {π N0 H0 N H σ ρ De} I q => by
  unfold bFreezeL at q
  split at q
  · obtain ⟨N', I'⟩ := I.freeze (by assumption)
    exact h I' q
  · exact h I q
theorem sl_callR {k n : Nat} {f : Addr} {fd : FuncData} {ps : List Str} {F : List D → T (List D)} {x : Str} {p : Pos} {ms : Rho → T (List D)} (G : FnOk X.prog X.w X.K X.mg X.base CX0 k f fd ps (spR X.K X.prog X.w n F)) (hr : Room k X.A) (hm : X.mg x = some (.ref f)) (hk : PySem.W.keepIn X.K (.ref f) = true) (hb : Binds X.K fd ps [])
    (ha : SndA X (e :: es) ms) (hg : Gl X x := by rfl) (hdb : (x == ("__debug__" : Str)) = false := by decide) (he : starEach (e :: es) X.env = (false, eval e X.env) :: starEach es X.env := by rfl) (hpl : (backTo pos (starEach es X.env)).any (·.1) = false := by rfl) :
    SndL X (.Call (.Name x p) (e :: es) [] pos) (lCallF n F ms) := fun {π N0 H0 N H σ ρ Q} I h =>
  ⟨_, pe_call G hr hg hm hk hb .nil pass0 pa_wp hdb he hpl, ha I (T.all_mono (fun ds hd vs H2 e1 r => by
    obtain ⟨hn, hd⟩ := cond_all hd
    show spR X.K X.prog X.w n F (vs ++ []) H2 Q E0
    rw [List.append_nil]
    exact ⟨π, N, ds, I.hn.ext e1, r, by rw [r.length]; exact by simpa using hn, T.all_mono (fun es q => q.up e1 I.hn.pot) hd⟩) (T.all_bind.mp h))⟩
end
section
variable {P : Program} {w : World} {K : PySem.W.Frag} {mg : Str → Option Value} {base : Heap}
/-- a def that gives a new list, by its body's reading -/
theorem fnL_ok {x qual : Str} {st : Stmt} {f : Addr} {fd : FuncData} {Nm ps : List Str} {k n p : Nat} {ml : Rho → T (List D)} {G : List D → T (List D)} (F : Fun K x qual st f fd) (S : FnScope Nm ps (defScope st)) (hn : Nm.length = n) (hp : ps.length = p) (hG : G = runL n ml)
    (hb : ∀ (cdv : Value) (A : Around) (outer : List Env) (s : Shared) (H : Hp) (E : XK), Room k (A.deeper (PyProof.Rows.envOfC qual (defScope st) s.heap.objs.size f cdv)) → SndBL (cxOf CX0 P w K mg base Nm qual (defScope st) f cdv A outer s H E).nox (defBody st) ml) :
    FnOk P w K mg base CX0 (k + 1) f fd ps (spR K P w p G) := by
  subst hn hp hG
  refine F.ok S (fun vs H Q E h => ?_) (fun cdv A outer s H vs Q E hr h => ?_)
  · obtain ⟨π, N, ds, hn, r, hl, _⟩ := h
    exact hl
  · obtain ⟨π, N, ds, hn, r, hl, hall⟩ := h
    exact hb cdv A outer s H E hr (env_start hn r) hall
/-- by name -/
def PmR (P : Program) (w : World) (K : PySem.W.Frag) (mg : Str → Option Value) (base : Heap) (x : Str) (k n : Nat) (ps : List Str) (F : List D → T (List D)) : Prop := ∃ (a : Addr) (fd : FuncData), mg x = some (.ref a) ∧ PySem.W.keepIn K (.ref a) = true ∧ FnOk P w K mg base CX0 k a fd ps (spR K P w n F) ∧ Binds K fd ps []
/-- a promise of a value, where a new list is promised -/
theorem PmR.pm {x : Str} {k n : Nat} {ps : List Str} {F : List D → T (List D)} (h : PmR P w K mg base x k n ps F) : Pm P w K mg base x k n ps (asD F) :=
  let ⟨a, fd, m, kp, G, B⟩ := h
  ⟨a, fd, m, kp, G.imp spR_of, B⟩
end
section
variable {X : Cx} {e : Expr} {es : List Expr} {pos : Pos} {ps : List Str} {k n : Nat} {F : List D → T (List D)} {ms : Rho → T (List D)}
theorem sl_callPR {x : Str} {p : Pos} (h : PmR X.prog X.w X.K X.mg X.base x k n ps F) (hr : Room k X.A) (ha : SndA X (e :: es) ms) (hg : Gl X x := by rfl) (hdb : (x == ("__debug__" : Str)) = false := by decide) (he : starEach (e :: es) X.env = (false, eval e X.env) :: starEach es X.env := by rfl) (hpl : (backTo pos (starEach es X.env)).any (·.1) = false := by rfl) :
    SndL X (.Call (.Name x p) (e :: es) [] pos) (lCallF n F ms) := let ⟨_, _, hm, hk, G, B⟩ := h; sl_callR G hr hm hk B ha hg hdb he hpl
end
end Pd

/-! Own lists looked at and kept; two at once, new lists among them. -/
namespace Pd
open PySem L2 PySem.Spec PyProof.Rows
/-- own list compared, and own still -/
def ePeek (f : D → D → T D) (i : Nat) (mb : Rho → T D) : Rho → T D := fun ρ => match ρ[i]? with
  | some (.own ds) => (mb ρ).bind fun y => (f (.lst ds) y).bind fun d => (asB d).bind fun b => .ret (.bl b)
  | _ => .fail
/-- xs, a = a new list, value -/
def sParL (i j : Nat) (ml : Rho → T (List D)) (ma : Rho → T D) : Rho → T Out := fun ρ => (ml ρ).bind fun ds => (ma ρ).bind fun x => .ret (.nx ((ρ.set i (.own ds)).set j (.val x)))
/-- xs, ys = two new lists -/
def sParLL (i j : Nat) (ml mk : Rho → T (List D)) : Rho → T Out := fun ρ => (ml ρ).bind fun ds => (mk ρ).bind fun es => .ret (.nx ((ρ.set i (.own ds)).set j (.own es)))
section
variable {X : Cx} {a b : Expr} {ma mb : Rho → T D} {ml mk : Rho → T (List D)} {pos : Pos}
theorem s_peek {op : CmpOp} {f : D → D → T D} (ho : OpSnd X (compareOp op) f) (i : Nat) (hb : Snd X b mb) {x : Str} {p : Pos} (hm : behindInMarks op b = false) (hN : X.N[i]? = some x := by rfl) (hv : Vis X.env.scope x := by first | exact Or.inl rfl | exact Or.inr (Or.inl rfl) | exact Or.inr (Or.inr rfl)) (hd : (x == ("__debug__" : Str)) = false := by decide)
    (hcd : (x == ("__classdict__" : Str)) = false := by decide) : Snd X (.Compare (.Name x p) [op] [b] pos) (ePeek f i mb) := fun {π N0 H0 N H σ ρ Q} I h => by
  unfold ePeek at h
  split at h
  · rename_i ds c
    obtain ⟨l, vs, hs1, nl, n0, hl, rl⟩ := I.lst i ds c
    refine ⟨_, pe_cmpR op_wp (pe_var hN hv hd hcd) pe_wp hm, .ref l, hs1, hb I (T.all_mono (fun dy hy => ?_) (T.all_bind.mp h))⟩
    intro u H2 e2 r2
    have lp := N_ne I.hn nl
    have hn2 : HN π (minus N l) H2 := ⟨(I.hn.ext e2).pot, by simp [minus, I.hn.npi], fun a ha => (I.hn.ext e2).isS a (minus_in ha).1⟩
    have less : Kp π (Hide N H2) (Hide (minus N l) H2) := Kp.less fun a ha => (minus_in ha).1
    refine ho hn2 (.lst (by rw [hide_in minus_self]; exact e2.kp l _ lp hl) lp ((rl.mono e2.kp.hide).mono less)) (r2.mono less) (T.all_mono (fun d hd2 => ?_) (T.all_bind.mp hy))
    obtain ⟨bb, rfl, q⟩ := asB_all (T.all_bind.mp hd2)
    intro v H3 e3 r3
    rw [r3.bool]
    exact q (.bl bb) H3 (e2.trans e3) (.bl bb)
  · exact False.elim h
theorem ss_parL {i j : Nat} {x y : Str} {px py pt : Pos} {kt k2 pt2} (hc : X.calm = true) (hN : X.N.Nodup) (ha : SndL X a ml) (hb : Snd X b mb) (hij : i ≠ j := by decide) (hi : X.N[i]? = some x := by rfl) (hj : X.N[j]? = some y := by rfl)
    (hx : X.env.scope.names.lookup x = some .local := by rfl) (hy : X.env.scope.names.lookup y = some .local := by rfl)
    (hw : swappedStores [.Tuple [.Name x px, .Name y py] kt pt] (.Tuple [a, b] k2 pt2) X.env = pure (some [x, y]) := by rfl)
    (hs : swapsWithSole [.Tuple [.Name x px, .Name y py] kt pt] (.Tuple [a, b] k2 pt2) pos.line X.env = pure false := by rfl) (he : starEach [a, b] X.env = (false, eval a X.env) :: starEach [b] X.env := by rfl) (he2 : starEach [b] X.env = (false, eval b X.env) :: starEach [] X.env := by rfl) :
    SndS X (.Assign [.Tuple [.Name x px, .Name y py] kt pt] (.Tuple [a, b] k2 pt2) pos) (sParL i j ml mb) := fun {π N0 H0 N H σ ρ De} I h => ⟨_, ps_par hc hN hi hj hij hx hy (pa_cons pe_wp (pa_cons pe_wp pa_nil he2) he) hw hs, by
  refine ha I (T.all_mono (fun ds hds => ?_) (T.all_bind.mp h))
  intro l vs H1 e1 hl h1 r1
  refine hb (I.hideNew e1 hl h1 ⟨ds, r1⟩) (T.all_mono (fun d hd => ?_) (T.all_bind.mp hds))
  intro v H2 e2 r2
  have h2 := e2.kp l _ (I.hn.pot.ne hl) h1
  exact ⟨.ref l, v, rfl, hd _ _ _ ((I.newOwn (x := .own ds) (e1.trans e2) hl h2 ⟨vs, rfl, r1.mono e2.kp.hide⟩).set r2)⟩⟩
theorem ss_parLL {i j : Nat} {x y : Str} {px py pt : Pos} {kt k2 pt2} (hc : X.calm = true) (hN : X.N.Nodup) (ha : SndL X a ml) (hb : SndL X b mk) (hij : i ≠ j := by decide) (hi : X.N[i]? = some x := by rfl) (hj : X.N[j]? = some y := by rfl)
    (hx : X.env.scope.names.lookup x = some .local := by rfl) (hy : X.env.scope.names.lookup y = some .local := by rfl)
    (hw : swappedStores [.Tuple [.Name x px, .Name y py] kt pt] (.Tuple [a, b] k2 pt2) X.env = pure (some [x, y]) := by rfl)
    (hs : swapsWithSole [.Tuple [.Name x px, .Name y py] kt pt] (.Tuple [a, b] k2 pt2) pos.line X.env = pure false := by rfl) (he : starEach [a, b] X.env = (false, eval a X.env) :: starEach [b] X.env := by rfl) (he2 : starEach [b] X.env = (false, eval b X.env) :: starEach [] X.env := by rfl) :
    SndS X (.Assign [.Tuple [.Name x px, .Name y py] kt pt] (.Tuple [a, b] k2 pt2) pos) (sParLL i j ml mk) := fun {π N0 H0 N H σ ρ De} I h => ⟨_, ps_par hc hN hi hj hij hx hy (pa_cons pe_wp (pa_cons pe_wp pa_nil he2) he) hw hs, by
  refine ha I (T.all_mono (fun ds hds => ?_) (T.all_bind.mp h))
  intro l vs H1 e1 hl h1 r1
  refine hb (I.hideNew e1 hl h1 ⟨ds, r1⟩) (T.all_mono (fun es hes => ?_) (T.all_bind.mp hds))
  intro l2 us H2 e2 hl2 h2 r2
  exact ⟨.ref l, .ref l2, rfl, hes _ _ _ ((I.newOwn (x := .own ds) e1 hl h1 ⟨vs, rfl, r1⟩).newOwn (x := .own es) e2 hl2 h2 ⟨us, rfl, r2⟩)⟩⟩
def lCallKF (n : Nat) (perm : List Nat) (F : List D → T (List D)) (ms : Rho → T (List D)) : Rho → T (List D) := fun ρ => (ms ρ).bind fun ds => cond (ds.length == n) (F (pickD perm ds)) .fail
theorem sl_callKR {k n : Nat} {f : Addr} {fd : FuncData} {ps ks : List Str} {perm : List Nat} {F : List D → T (List D)} {x : Str} {p : Pos} {kws : List Keyword} {ms : Rho → T (List D)} (G : FnOk X.prog X.w X.K X.mg X.base CX0 k f fd ps (spR X.K X.prog X.w n F)) (hr : Room k X.A) (hm : X.mg x = some (.ref f)) (hk : PySem.W.keepIn X.K (.ref f) = true)
    (hb : KBind X.K fd ps ks perm) (hp : perm.length = n) (hkn : ks.length = n) (ha : SndK X kws ms) (hg : Gl X x := by rfl) (hall : (backToKw pos (keywordEach kws X.env)).all (·.1.isSome) = true := by rfl) (hks : (backToKw pos (keywordEach kws X.env)).filterMap (·.1) = ks := by rfl)
    (hdb : (x == ("__debug__" : Str)) = false := by decide) (hpl : ((backTo pos (starEach [] X.env)).any (·.1) || (backToKw pos (keywordEach kws X.env)).any (·.1.isNone)) = false := by rfl) : SndL X (.Call (.Name x p) [] kws pos) (lCallKF n perm F ms) := fun {π N0 H0 N H σ ρ Q} I h => by
  refine ⟨fun σ H Q => wpK X kws σ H fun zs H2 => zs.length = n ∧ spR X.K X.prog X.w n F (perm.map fun i => zs.getD i .non) H2 Q E0, ⟨fun pins s σ H Q J q => ?_⟩, ?_⟩
  · refine wpAny_Call_Name_kw (ld_glob J hg hm ?_ hdb)
    refine PySem.W.callWith_KW0 (h₀ := X.base) J.ok.mod.kin hk hall (thn (pk_wp.run pos pins s σ H _ J q) fun ws s2 ⟨zs, H2, I2, rz, hz, q2⟩ => ⟨I2.kIn, ?_⟩) hpl
    rw [hks]
    show wpAny _ _ (call (.ref f) [] (ks.zip ws)) _ _ _
    have r2 := vals_pick rz perm
    refine wpAny_call (codeAny_mono (G.run X.A X.stack s2 H2 ⟨[], ks.zip ws⟩ _ _ Q E0 hr I2.env0 (hb s2 ws I2.kIn (by rw [← rz.length, hz, hkn])) r2 q2) fun r s' hq => ?_)
    cases r with
    | error e => exact pass0 pins σ H2 s2 e s' I2 hq
    | ok fl =>
      cases fl with
      | ret u => exact I2.after hq
      | next => exact False.elim hq
      | brk => exact False.elim hq
      | cont => exact False.elim hq
  · refine ha I (T.all_mono (fun ds hd => ?_) (T.all_bind.mp h))
    intro vs H2 e1 r
    obtain ⟨hn, hd⟩ := cond_all hd
    have hn : ds.length = n := by simpa using hn
    exact ⟨by rw [r.length]; exact hn, π, N, pickD perm ds, I.hn.ext e1, rvl_pick r perm, by rw [List.length_map]; exact hp, T.all_mono (fun es q => q.up e1 I.hn.pot) hd⟩
/-- by name, called by keywords -/
def PmRK (P : Program) (w : World) (K : PySem.W.Frag) (mg : Str → Option Value) (base : Heap) (x : Str) (k n : Nat) (ps ks : List Str) (perm : List Nat) (F : List D → T (List D)) : Prop := ∃ (a : Addr) (fd : FuncData), mg x = some (.ref a) ∧ PySem.W.keepIn K (.ref a) = true ∧ FnOk P w K mg base CX0 k a fd ps (spR K P w n F) ∧ KBind K fd ps ks perm
theorem sl_callPRK {ps ks : List Str} {k n : Nat} {perm : List Nat} {F : List D → T (List D)} {ms : Rho → T (List D)} {x : Str} {p : Pos} {kws : List Keyword} (h : PmRK X.prog X.w X.K X.mg X.base x k n ps ks perm F) (hr : Room k X.A) (hp : perm.length = n) (hkn : ks.length = n) (ha : SndK X kws ms) (hg : Gl X x := by rfl) (hall : (backToKw pos (keywordEach kws X.env)).all (·.1.isSome) = true := by rfl) (hks : (backToKw pos (keywordEach kws X.env)).filterMap (·.1) = ks := by rfl)
    (hdb : (x == ("__debug__" : Str)) = false := by decide) (hpl : ((backTo pos (starEach [] X.env)).any (·.1) || (backToKw pos (keywordEach kws X.env)).any (·.1.isNone)) = false := by rfl) : SndL X (.Call (.Name x p) [] kws pos) (lCallKF n perm F ms) := let ⟨_, _, hm, hk, G, B⟩ := h; sl_callKR G hr hm hk B hp hkn ha hg hall hks hdb hpl
end
end Pd

/-! enumerate(a list); extend. -/
namespace Pd
open PySem L2 PySem.Spec PyProof.Rows
def enumL : List D → T (List D)
  | [.lst ds] => .ret (numbered 0 ds)
  | _ => .fail
def sExt (i : Nat) (ml : Rho → T (List D)) : Rho → T Out := fun ρ => match ρ[i]? with
  | some (.own ds) => (ml ρ).bind fun es => cond (small (ds ++ es)) (.ret (.nx (ρ.set i (.own (ds ++ es))))) .fail
  | _ => .fail
section
variable {X : Cx} {a e : Expr} {ms : Rho → T (List D)} {ml : Rho → T (List D)} {p pos tpos : Pos} {elts : List Expr} {kk : Nat}
theorem si_enumL (hm : X.mg "enumerate" = none) (ha : SndA X [a] ms) (hg : Gl X "enumerate" := by rfl) (hs : starEach [a] X.env = [(false, eval a X.env)] := by rfl) : SndI X (.Tuple elts kk tpos) (.Call (.Name "enumerate" p) [a] [] pos) (iRg enumL ms) := fun {π N0 H0 N H σ ρ R} I h =>
  ⟨_, pi_enum hg hm pa_wp hs, ha I (T.all_mono (fun ds hd => by
    intro vs H2 e2 r
    unfold enumL at hd
    split at hd
    · cases r with
      | cons r t =>
        cases t
        obtain ⟨a, us, rfl, hq, na, ne, ra⟩ := id r.lstE
        refine ⟨a, us, rfl, .inl (.inl hq), hd _ _ e2 fun N' H' i hn k => ?_⟩
        obtain ⟨n', h'⟩ := vis_some k na ne hq
        have sq : SqL X.K H' a us := .inl (.inl h')
        have rb := ra.mono k
        refine ⟨fun d hd => ?_, fun e => ⟨us, sq, by rw [e, numbered_len, rb.length]; exact Nat.le_refl _⟩⟩
        obtain ⟨x, hx, rfl⟩ := numbered_get hd
        obtain ⟨v, hv, rv⟩ := rb.get hx
        refine ⟨⟨us, v, sq, hv⟩, fun y H3 z => ?_⟩
        obtain ⟨T, x', rfl, hT, rfl, all⟩ := z
        have e3 := all us sq
        rw [hv] at e3
        cases e3
        have en := Ex.new (o := .tup [V.int (i : Nat), v]) hn.pot hT
        exact ⟨en, .tup (hide_new (hn.new hT)) (hn.pot.ne hT) (.cons (by simpa using Rv.int _) (.cons (rv.mono en.kp.hide) .nil))⟩
    · exact False.elim hd) (T.all_bind.mp h))⟩
theorem ss_ext {i : Nat} {x : Str} {p apos cpos : Pos} (he : SndL X e ml) (hN : X.N[i]? = some x := by rfl) (hv : Vis X.env.scope x := by first | exact Or.inl rfl | exact Or.inr (Or.inl rfl) | exact Or.inr (Or.inr rfl)) (hd : (x == ("__debug__" : Str)) = false := by decide)
    (hcd : (x == ("__classdict__" : Str)) = false := by decide) (hse : starEach [e] X.env = (false, eval e X.env) :: starEach [] X.env := by rfl) (hpl : (backTo cpos (starEach [] X.env)).any (·.1) = false := by rfl)
    (hs : swapsWith (.Call (.Attribute (.Name x p) "extend" apos) [e] [] cpos) none pos.line X.env = pure false := by rfl) (hfew : ((((backTo cpos (starEach [e] X.env)).all fun x => !x.fst) && (backToKw cpos (keywordEach [] X.env)).all fun x => x.fst.isSome) && decide (([e].length + ([] : List Keyword).length + if ([] : List Keyword).isEmpty = true then 0 else 1) < 30)) = true := by rfl) (hline : (apos.endLine == cpos.line) = true := by rfl) : SndS X (.Expr (.Call (.Attribute (.Name x p) "extend" apos) [e] [] cpos) pos) (sExt i ml) := fun {π N0 H0 N H σ ρ De} I h => by
  unfold sExt at h
  split at h
  · rename_i ds c
    obtain ⟨l, vs, hs1, nl, n0, hl, rl⟩ := I.lst i ds c
    refine ⟨_, ps_expr (pe_bm PySem.F.plainAttrs_list PySem.F.slot_list_extend PySem.F.type_list_extend mt_extend (pe_var hN hv hd hcd) (pa_cons pe_wp pa_nil hse) (hfew := hfew) (hline := hline) (hs := hse) (hplain := hpl)) hs, .ref l, hs1, .inl ⟨rfl, _, SqL.of hl⟩, ?_⟩
    refine he I (T.all_mono (fun es hd => ?_) (T.all_bind.mp h))
    intro b zs H2 e2 hb h2 r
    obtain ⟨hsm, hd⟩ := cond_all hd
    have hl2 := e2.kp l _ (N_ne I.hn nl) hl
    have r' := r.mono (Kp.less (N' := N) fun a h => plus_old h)
    have rr := (rl.mono e2.kp.hide).append r'
    refine ⟨l, b, vs, zs, rfl, rfl, hl2, h2, ?_, hd _ _ _ ((I.ext e2).upAny c rfl hs1 nl n0 (.inl ⟨vs ++ zs, ds ++ es, rfl, rfl, rr⟩))⟩
    have q := rr.length
    rw [List.length_append] at q
    rw [q]
    exact Nat.le_trans (of_decide_eq_true hsm) (by decide)
  · exact False.elim h
end
end Pd

/-! `__init__` of a class: checks, then attributes, each from the arguments. -/
namespace Pd
open PySem L2 PySem.Spec PyProof.Rows
theorem RvF.add {K : PySem.W.Frag} {P : Program} {w : World} {π : Addr} {H : Hp} {f : Str} {v : V} {d : D} : ∀ {ds : List (Str × D)} {vs : List (Str × V)}, RvF K P w π H vs ds → fieldD f ds = none → Rv K P w π H v d → RvF K P w π H (putF f v vs) (ds ++ [(f, d)])
  | [], _, .nil, _, r => .cons r .nil
  | (g, dg) :: ds, (_, vg) :: vs, .cons rg t, h, r => by
    unfold fieldD at h
    have ne : ¬ g = f := fun z => by
      subst z
      simp at h
    have h' : fieldD f ds = none := by
      have e : (f == g) = false := beq_false_of_ne fun z => ne z.symm
      have e' : (g == f) = false := beq_false_of_ne ne
      simpa [e, e'] using h
    show RvF K P w π H (if g = f then (g, v) :: vs else (g, vg) :: putF f v vs) ((g, dg) :: (ds ++ [(f, d)]))
    rw [if_neg ne]
    exact .cons rg (t.add h' r)
abbrev MI : Type := Rho → List (Str × D) → T (List (Str × D))
def iNil : MI := fun _ fs => .ret fs
def iChk (m : Rho → T D) (k : MI) : MI := fun ρ fs => (m ρ).bind fun _ => k ρ fs
def iIf (mt : Rho → T Bool) (k : MI) : MI := fun ρ fs => (mt ρ).bind fun b => cond b .fail (k ρ fs)
def iFld (f : Str) (m : Rho → T D) (k : MI) : MI := fun ρ fs => (m ρ).bind fun d => cond ((fieldD f fs).isNone && decide (fs.length < 100)) (k ρ (fs ++ [(f, d)])) .fail
section
variable (X : Cx)
/-- the rest of an `__init__`: slot 0 is the new object, whose attributes so far are known -/
def SndIn (c0 : Str) (sts : List Stmt) (k : MI) : Prop := ∀ ⦃π : Addr⦄ ⦃N0 : Addr → Bool⦄ ⦃H0 : Hp⦄ ⦃N : Addr → Bool⦄ ⦃H : Hp⦄ ⦃σ : L2.St⦄ ⦃ρ : Rho⦄ ⦃De : Ends⦄ ⦃x C dx : Addr⦄ ⦃fv : List (Str × V)⦄ ⦃fs : List (Str × D)⦄, EnvOk X.K X.prog X.w π N0 H0 N H σ ρ → σ[0]? = some (some (.ref x)) → N x = true → N0 x = false →
  (∀ (j : Nat) (f : Ent), ρ[j]? = some f → f.isOwn = false) → Cls X.K C → ClsAt X.K c0 C → H x = some (.ins C dx fv) → RvF X.K X.prog X.w π (Hide N H) fv fs →
  (k ρ fs).all (fun gs => ∀ (H' : Hp) (gv : List (Str × V)), (∀ a o, a ≠ π → a ≠ x → H a = some o → H' a = some o) → PotOk H' π → H' x = some (.ins C dx gv) → RvF X.K X.prog X.w π (Hide N H') gv gs → De.nx σ H') → wpSs X sts De σ H
end
section
variable {X : Cx} {c0 : Str} {rest bd : List Stmt} {e c : Expr} {m : Rho → T D} {mt : Rho → T Bool} {k : MI} {pos : Pos}
theorem in_nil : SndIn X c0 [] iNil := fun {π N0 H0 N H σ ρ De x C dx fv fs} I h0 hx n0 own cl at0 hH rf q => ⟨_, pss_nil, q H fv (fun a o _ _ h => h) I.hn.pot hH rf⟩
theorem in_chk (he : Snd X e m) (hr : SndIn X c0 rest k) (hs : swapsWith e none pos.line X.env = pure false := by rfl) : SndIn X c0 (.Expr e pos :: rest) (iChk m k) := fun {π N0 H0 N H σ ρ De x C dx fv fs} I h0 hx n0 own cl at0 hH rf q =>
  ⟨_, pss_cons (ps_expr pe_wp hs) pss_wp, he I (T.all_mono (fun d hd => by
    intro v H2 e2 r
    have xp := N_ne I.hn hx
    refine hr (I.ext e2) h0 hx n0 own cl at0 (e2.kp x _ xp hH) (rf.mono e2.kp.hide) (T.all_mono (fun gs g H' gv a b c d => g H' gv (fun y o y1 y2 z => a y o y1 y2 (e2.kp y o y1 z)) b c d) hd)) (T.all_bind.mp q))⟩
theorem in_if (hc : SndT X c mt) (hr : SndIn X c0 rest k) : SndIn X c0 (.If c bd [] pos :: rest) (iIf mt k) := fun {π N0 H0 N H σ ρ De x C dx fv fs} I h0 hx n0 own cl at0 hH rf q =>
  ⟨_, pss_cons (ps_if pt_wp pss_wp pss_nil) pss_wp, hc I (T.all_mono (fun b hb H2 e2 => by
    cases b with
    | true => exact False.elim hb
    | false =>
      have xp := N_ne I.hn hx
      exact iteF (hr (I.ext e2) h0 hx n0 own cl at0 (e2.kp x _ xp hH) (rf.mono e2.kp.hide) (T.all_mono (fun gs g H' gv a b c d => g H' gv (fun y o y1 y2 z => a y o y1 y2 (e2.kp y o y1 z)) b c d) hb))) (T.all_bind.mp q))⟩
theorem in_fld {f x0 : Str} {p pos' : Pos} (he : Snd X e m) (hr : SndIn X c0 rest k) (no : ∀ C, ClsAt X.K c0 C → NoAttr X.K C f) (hN : X.N[0]? = some x0 := by rfl) (hv : Vis X.env.scope x0 := by first | exact Or.inl rfl | exact Or.inr (Or.inl rfl) | exact Or.inr (Or.inr rfl)) (hd : (x0 == ("__debug__" : Str)) = false := by decide)
    (hcd : (x0 == ("__classdict__" : Str)) = false := by decide) (hs : swapsWith e (some (.Attribute (.Name x0 p) f pos')) pos.line X.env = pure false := by rfl) : SndIn X c0 (.Assign [.Attribute (.Name x0 p) f pos'] e pos :: rest) (iFld f m k) := fun {π N0 H0 N H σ ρ De x C dx fv fs} I h0 hx n0 own cl at0 hH rf q =>
  ⟨_, pss_cons (ps_fld (pe_var hN hv hd hcd) pe_wp hs) pss_wp, he I (T.all_mono (fun d hd => by
    intro v H2 e2 r
    obtain ⟨hb, hd⟩ := cond_all hd
    simp only [Bool.and_eq_true, Option.isNone_iff_eq_none, decide_eq_true_eq] at hb
    have xp := N_ne I.hn hx
    have hx2 := e2.kp x _ xp hH
    have rf2 := rf.mono e2.kp.hide
    have hide : ∀ o, Hide N (upd H2 x o) = Hide N H2 := fun o => by
      funext a
      by_cases z : a = x
      · subst z; simp [Hide, hx]
      · unfold Hide; rw [upd_ne z]
    refine ⟨.ref x, h0, x, C, dx, fv, rfl, hx2, cl, no C at0, ?_, ?_⟩
    · have : fv.length = fs.length := by
        have l : ∀ {ds : List (Str × D)} {vs : List (Str × V)}, RvF X.K X.prog X.w π (Hide N H) vs ds → vs.length = ds.length := fun {ds} => by
          induction ds with
          | nil => intro vs r; cases r; rfl
          | cons d ds ih => intro vs r; cases r with | cons _ t => rw [List.length_cons, List.length_cons, ih t]
        exact l rf
      omega
    · refine hr ((I.ext e2).upHid hx n0 (fun j g l' h1 o1 _ => by rw [own j g h1] at o1; cases o1)) h0 hx n0 own cl at0 upd_same (by rw [hide]; exact rf2.add hb.1 r) (T.all_mono (fun gs g H' gv a b c d => g H' gv (fun y o y1 y2 z => a y o y1 y2 (by rw [upd_ne y2]; exact e2.kp y o y1 z)) b c d) hd)) (T.all_bind.mp q))⟩
end
section
variable {P : Program} {w : World} {K : PySem.W.Frag} {mg : Str → Option Value} {base : Heap}
def runI (n : Nat) (k : MI) : List D → T (List (Str × D)) := fun ds => k (Ent.un :: (ds.map Ent.val ++ List.replicate (n - ds.length) Ent.un)) []
/-- an `__init__`, by its body's reading -/
theorem init_ok {qual c : Str} {st : Stmt} {f : Addr} {fd : FuncData} {Nm ps : List Str} {k n p : Nat} {C : Addr} {dvs : List V} {ki : MI} (F : FunD K "__init__" qual (defArgs st) (defBody st) (defScope st) dvs [] f fd) (S : FnScope Nm ps (defScope st)) (hn : Nm.length = n + 1) (hp : ps.length = p + 1) (cl : Cls K C) (at_ : ClsAt K c C)
    (hb : ∀ (cdv : Value) (A : Around) (outer : List Env) (s : Shared) (H : Hp) (E : XK), Room k (A.deeper (PyProof.Rows.envOfC qual (defScope st) s.heap.objs.size f cdv)) → SndIn (cxOf CX0 P w K mg base Nm qual (defScope st) f cdv A outer s H E).nox c (defBody st) ki) :
    FnOk P w K mg base CX0 (k + 1) f fd ps (spI K P w c p (runI n ki)) := by
  refine F.ok (k := k) S (fun vs H Q E h => ?_) (fun cdv A outer s H vs Q E hr h => ?_)
  · obtain ⟨π, N, x, dx, C, args, ds, rfl, hl, _⟩ := h
    rw [List.length_cons, hl, hp]
  · suffices z : wpSs (cxOf CX0 P w K mg base Nm qual (defScope st) f cdv A outer s H E).nox (defBody st) { nx := fun _ H' => Q .non H', rt := Q } (L2.start Nm vs) H by
      obtain ⟨t, a, b⟩ := z
      exact ⟨t, a.nox, b⟩
    obtain ⟨π, N, x, dx, C2, args, ds, rfl, hl, hn2, Nx, hx, hc, ra, hall⟩ := h
    have ec := at_.one hc
    subst ec
    have xpi := N_ne hn2 Nx
    have l1 := ra.length
    have E0 : EnvOk K P w π (minus N x) (fun a => if a = x then none else H a) N H (L2.start Nm (.ref x :: args)) (Ent.un :: (ds.map Ent.val ++ List.replicate (n - ds.length) Ent.un)) := by
      have s0 := env_start (Nm := Nm.drop 1) hn2 ra
      have len : (Nm.drop 1).length = n := by rw [List.length_drop, hn]; rfl
      rw [len] at s0
      have st0 : L2.start Nm (V.ref x :: args) = some (V.ref x) :: L2.start (Nm.drop 1) args := by
        unfold L2.start
        rw [List.map_cons, List.cons_append, len, hn, List.length_cons, show n + 1 - (args.length + 1) = n - args.length by omega]
      rw [st0]
      have J := s0.consUn (some (.ref x))
      refine ⟨J.hn, fun a o n1 h => ?_, fun a h => (minus_in h).1, fun a h => ?_, J.len, J.val, fun j y hy yo => ?_, J.inj⟩
      · by_cases z : a = x
        · subst z; simp at h
        · simpa [z] using h
      · by_cases z : a = x
        · subst z; exact .inr (by simp)
        · exact .inl (minus_of h z)
      · exfalso
        cases j with
        | zero => cases hy; cases yo
        | succ j =>
          have hy' : (ds.map Ent.val ++ List.replicate (n - ds.length) Ent.un)[j]? = some y := hy
          rcases List.mem_append.mp (List.mem_of_getElem? hy') with z | z
          · obtain ⟨d, _, rfl⟩ := List.mem_map.mp z; cases yo
          · rw [(List.mem_replicate.mp z).2] at yo; cases yo
    refine hb cdv A outer s H E hr E0 ?_ Nx minus_self (fun j g hg => ?_) cl at_ hx .nil (T.all_mono (fun gs g H' gv a b c d => g H' gv a b c d) hall)
    · unfold L2.start
      rfl
    · cases j with
      | zero => cases hg; rfl
      | succ j =>
        have hy' : (ds.map Ent.val ++ List.replicate (n - ds.length) Ent.un)[j]? = some g := hg
        rcases List.mem_append.mp (List.mem_of_getElem? hy') with z | z
        · obtain ⟨d, _, rfl⟩ := List.mem_map.mp z; rfl
        · rw [(List.mem_replicate.mp z).2]; rfl
end
end Pd

/-! Attributes and isinstance of any of the program's classes, by promises. -/
namespace Pd
open PySem L2 PySem.Spec PyProof.Rows
/-- the class c has nothing named f of its own, and its objects are plain -/
def AtP (K : PySem.W.Frag) (c f : Str) : Prop := ∃ C, ClsAt K c C ∧ Cls K C ∧ NoAttr K C f
theorem AtP.no {K : PySem.W.Frag} {c f : Str} (h : AtP K c f) : ∀ C, ClsAt K c C → NoAttr K C f := fun C hC => by
  obtain ⟨C2, a, _, n⟩ := h
  have e := a.one hC
  subst e
  exact n
/-- no other class of cs is one of c0 -/
def DfP (K : PySem.W.Frag) (cs : List Str) (c0 : Str) : Prop := ∀ c C C0, cs.contains c = true → (c == c0) = false → ClsAt K c C → ClsAt K c0 C0 → PySem.W.kitOne K (.ref C) (.ref C0) = some false
section
variable {X : Cx} {e : Expr} {m : Rho → T D} {pos : Pos}
theorem s_attrP {c f : Str} (h : AtP X.K c f) (ha : Snd X e m) (hb : attributeBase e f X.env (eval e X.env) = eval e X.env := by rfl) : Snd X (.Attribute e f pos) (eUn (attrD c f) m) :=
  let ⟨_, a, b, n⟩ := h
  s_attr a b n ha hb
theorem s_isinstG (cs : List Str) {c0 : Str} {p p2 : Pos} (kn : KnownC X.K cs) (ic : IcP X.K X.mg c0) (df : DfP X.K cs c0) (hm : X.mg "isinstance" = none) (ha : Snd X e m) (hg : Gl X "isinstance" := by rfl) (hgt : Gl X c0 := by rfl) (hd : (c0 == ("__debug__" : Str)) = false := by decide)
    (he : starEach [e, .Name c0 p] X.env = (false, eval e X.env) :: starEach [.Name c0 p] X.env := by rfl) (he2 : starEach [.Name c0 p] X.env = (false, eval (.Name c0 p) X.env) :: starEach [] X.env := by rfl) (hpl : (backTo pos (starEach [.Name c0 p] X.env)).any (·.1) = false := by rfl) :
    Snd X (.Call (.Name "isinstance" p2) [e, .Name c0 p] [] pos) (eUn (isOC cs c0) m) :=
  let ⟨_, a, b, c⟩ := ic
  s_isinstO cs kn a b (fun c C h1 h2 h3 => df c C _ h1 h2 h3 a) hm c ha hg hgt (by decide +kernel) hd he he2 hpl
end
end Pd

/-! t[::-1], t a tuple. -/
namespace Pd
open PySem L2 PySem.Spec PyProof.Rows HT
section
variable {prog : Program} {w : World} {A : Around} {E : Value → Shared → Prop} {s : Shared}
theorem adj_back (n : Nat) : Builtin.Slice.sliceAdjust none none (-1) (n : Int) = ((n : Int) - 1, -1) := by
  unfold Builtin.Slice.sliceAdjust
  simp
theorem places_back (n : Nat) : Builtin.Slice.slicePlaces ((n : Int) - 1) (-1) (-1) = n := by
  unfold Builtin.Slice.slicePlaces
  have a : ¬ ((-1 : Int) > 0) := by decide
  simp only [a, if_false]
  by_cases h : (n : Int) - 1 > -1
  · rw [if_pos h, show (-(-1) : Int) = 1 by decide, Int.ediv_one]
    omega
  · rw [if_neg h]
    omega
theorem fm_congr {f g : Nat → Option Value} : ∀ {l : List Nat}, (∀ m ∈ l, f m = g m) → l.filterMap f = l.filterMap g
  | [], _ => rfl
  | a :: l, h => by
    rw [List.filterMap_cons, List.filterMap_cons, h a List.mem_cons_self, fm_congr fun m hm => h m (List.mem_cons_of_mem _ hm)]
theorem pick_back (xs : Array Value) : ((List.range xs.size).filterMap fun (m : Nat) => xs[(((xs.size : Nat) : Int) - 1 + (m : Int) * (-1)).toNat]?).toArray = xs.toList.reverse.toArray := by
  rw [← PySem.W.krv_pick]
  unfold slicePick
  rw [PySem.W.krv_bounds]
  show _ = ((sliceRange ((xs.size : Int) - 1) (-1) (-1)).filterMap (xs[·]?)).toArray
  rw [PySem.W.krv_sliceRange, List.filterMap_map]
  congr 1
  refine fm_congr fun m hm => ?_
  have := List.mem_range.mp hm
  show xs[_]? = xs[xs.size - 1 - m]?
  congr 1
  omega
theorem applied_back {sl : Addr} {vs : Value} {n : Nat} {Q : Int × Int × Nat → Shared → Prop} (hs : s.heap.IsSliceOf sl .none .none vs) (ps : IsPart vs (some (-1))) (h : Q ((n : Int) - 1, -1, n) s) : wpAny (model prog w) A (Builtin.Slice.sliceApplied (.ref sl) (pure (n : Int))) Q E s := by
  obtain ⟨os, ho, hc, hd⟩ := id hs
  unfold Builtin.Slice.sliceApplied Builtin.Slice.sliceFields
  refine wpAny_bind (wpAny_bind (wpAny_field ho hd (x := .none) rfl (wpAny_bind (wpAny_field ho hd (x := .none) rfl (wpAny_bind (wpAny_field ho hd (x := vs) rfl (wpAny_pure ?_)))))))
  refine wpAny_bind (slicePart_ ps ?_)
  show wpAny _ _ (if ((-1 : Int) == 0) = true then _ else _) _ _ s
  rw [if_neg (by decide)]
  refine wpAny_bind (slicePart_ .none (wpAny_bind (slicePart_ .none (wpAny_bind (wpAny_pure ?_)))))
  show wpAny _ _ (match Builtin.Slice.sliceAdjust none none (-1) (n : Int) with | (a, b) => pure (a, (-1 : Int), Builtin.Slice.slicePlaces a b (-1))) _ _ s
  rw [adj_back n]
  show wpAny _ _ (pure ((n : Int) - 1, (-1 : Int), Builtin.Slice.slicePlaces ((n : Int) - 1) (-1) (-1))) _ _ s
  rw [places_back]
  exact wpAny_pure h
theorem item_back {t sl : Addr} {items : Array Value} {vs : Value} {Q : Value → Shared → Prop} (ht : IsTup s.heap t items) (hs : s.heap.IsSliceOf sl .none .none vs) (ps : IsPart vs (some (-1)))
    (h : Q (.ref s.heap.objs.size) { s with heap := s.heap.push { cls := .type "tuple", data := .seq items.toList.reverse.toArray } }) (hsz : items.size ≤ sizeLine) : wpAny (model prog w) A (getItem (.ref t) (.ref sl)) Q E s := by
  have room : sizeOk (.seq items.toList.reverse.toArray) := by
    show items.toList.reverse.toArray.size ≤ sizeLine
    simpa using hsz
  obtain ⟨os, ho, hc, hd⟩ := id hs
  have ty : s.TypeIs (.ref sl) "slice" := ⟨os, ho, hc⟩
  unfold getItem
  try with_reducible refine wpAny_holding ?_
  first | refine wpAny_bind (wpAny_pure ?_) | skip
  refine wpAny_bind (wpAny_sequenceKey ht.typeIs (by decide) (wpAny_bind (wpAny_callSpecial?_slot (name := Str.ofString "__getitem__") ht.typeIs PyProof.Rows.slot_tuple_getitem (wpAny_call_entry PyProof.Rows.slot_tuple_getitem ht.typeIs entry_tuple_getitem ?_ (args_tuple_getitem _ _)))))
  show wpAny _ _ (Builtin.Tuple.tupleItemsOf (.ref t) >>= _) _ _ s
  refine wpAny_bind (tupleItemsOf_ ht (wpAny_bind (wpAny_typeOf ty ?_)))
  rw [if_pos (by decide)]
  refine wpAny_bind (applied_back hs ps ?_)
  have no : ¬ ((((items.size : Int) - 1) == 0 && (-1 : Int) == 1 && items.size == items.size) = true) := by
    intro q
    rw [Bool.and_eq_true, Bool.and_eq_true] at q
    exact absurd q.1.2 (by decide)
  show wpAny _ _ (if (((items.size : Int) - 1) == 0 && (-1 : Int) == 1 && items.size == items.size) = true then _ else _) _ _ s
  rw [if_neg no, pick_back]
  first
    | exact wpAny_bind (wpAny_newObj_type (wpAny_pure ⟨_, rfl, wpAny_pure h⟩) room)
    | exact wpAny_bind (m := Builtin.Tuple.tupleExact _) (wpAny_newObj_type (wpAny_bind (wpAny_pure (wpAny_pure ⟨_, rfl, wpAny_pure h⟩))) room)
    | exact wpAny_bind (wpAny_bind (m := Builtin.Tuple.tupleExact _) (wpAny_newObj_type (wpAny_pure (wpAny_pure ⟨_, rfl, wpAny_pure h⟩)) room))
    | exact wpAny_bind (wpAny_bind (m := Builtin.Tuple.tupleExact _) (wpAny_newObj_type (wpAny_pure ⟨_, rfl, wpAny_pure h⟩) room))
end
def eRevT (m : Rho → T D) : Rho → T D := fun ρ => (m ρ).bind fun d => (asTp d).bind fun ds => .ret (.tup ds.reverse)
section
variable {X : Cx} {a : Expr} {ma : Rho → T D} {pos : Pos}
def tRevT (K : PySem.W.Frag) (te : TE) : TE := fun σ H Q => te σ H fun x H1 => ∃ t xs, x = .ref t ∧ SqT K H1 t xs ∧ ∀ p, H1 p = none → Q (.ref p) (upd H1 p (.tup xs.reverse))
theorem pe_revT {e : Expr} {te : TE} {k : Nat} {p1 p2 p3 pos : Pos} (he : PE X e te) : PE X (.Subscript e (.Slice none none (some (.UnaryOp .USub (.Constant (.int 1) k p1) p2)) p3) pos) (tRevT X.K te) := ⟨fun pins s σ H Q J q0 =>
  Subscript_ (thn (he.run pins s σ H _ J q0) fun v s1 ⟨x, H1, J1, r1, q1⟩ => by
    obtain ⟨t, xs, rfl, hx, q⟩ := q1
    cases r1
    have step : PO X (some (.UnaryOp .USub (.Constant (.int 1) k p1) p2)) (tPart (tUn (rU fun i => .int (-i)) (tC (.int 1)))) := po_some (pe_un un_neg pe_int)
    refine wpAny_Slice (thn (po_none.run pins s1 σ H1 (fun o G => o = none ∧ G = H1) J1 ⟨rfl, rfl⟩) fun vl s2 ⟨l, H2, J2, pl, z1, z2⟩ => ?_)
    subst z1 z2
    refine thn (po_none.run pins s2 σ H2 (fun o G => o = none ∧ G = H2) J2 ⟨rfl, rfl⟩) fun vu s3 ⟨u, H3, J3, pu, z3, z4⟩ => ?_
    subst z3 z4
    refine thn (step.run pins s3 σ H3 (fun o G => o = some (-1) ∧ G = H3) J3 ⟨1, rfl, -1, rfl, rfl, rfl⟩) fun vs s4 ⟨o, H4, J4, ps, z5, z6⟩ => ?_
    subst z5 z6
    cases pl
    cases pu
    have J5 : Inv X pins σ H4 { s4 with heap := s4.heap.push { cls := .type "slice", data := .fields #[.none, .none, vs] } } := J4.kept (t' := s4.toks) fun b ob z => Heap.get?_push_of_some _ z
    obtain ⟨its, r, ht, hz⟩ := J5.tuple hx
    have len := r.length
    show wpAny (model X.prog X.w) X.A (subscriptTail e (.Slice none none (some (.UnaryOp .USub (.Constant (.int 1) k p1) p2)) p3) (.ref t) (.ref s4.heap.objs.size)) (EP X pins σ Q) X.xe { s4 with heap := s4.heap.push { cls := .type "slice", data := .fields #[.none, .none, vs] } }
    refine tail_any (ops := [.ref t, .ref s4.heap.objs.size]) ht.typeIs (PyProof.Rows.slot_tuple_getitem.lookup) ?_ (by with_unfolding_all rfl)
    refine item_back ht (Heap.IsSliceOf.new _ .none .none vs) ps ⟨.ref _, _, J5.laid (t' := s4.toks) (o := .tup xs.reverse) (fun b ob z => Heap.get?_push_of_some _ z) (Nat.le_refl _) ?_, rfl, q _ (J5.hok.fresh (Nat.le_refl _))⟩ (by rw [List.size_toArray, ← len]; exact hz)
    exact ⟨by rw [List.length_reverse]; exact hz, _, r.reverse, IsTup.new _ _⟩)⟩
theorem s_revT {k : Nat} {p1 p2 p3 : Pos} (ha : Snd X a ma) : Snd X (.Subscript a (.Slice none none (some (.UnaryOp .USub (.Constant (.int 1) k p1) p2)) p3) pos) (eRevT ma) := fun {π N0 H0 N H σ ρ Q} I h =>
  ⟨_, pe_revT pe_wp, ha I (T.all_mono (fun d hd v H1 e r => by
    cases d with
    | tup ds =>
      have hd2 : Kd X π N H Q (.tup ds.reverse) := T.all_bind.mp hd
      obtain ⟨t, xs, rfl, hx, rx⟩ := id r.tupE
      refine ⟨t, xs, rfl, hx, fun p hp => ?_⟩
      have hn := I.hn.ext e
      exact Kd.new (hd2.up e) hn rx.reverse hp
    | _ => exact False.elim (T.all_bind.mp hd)) (T.all_bind.mp h))⟩
end
end Pd

/-! An own list compared, as a test. -/
namespace Pd
open PySem L2 PySem.Spec PyProof.Rows
section
variable {X : Cx} {b : Expr} {mb : Rho → T D} {pos : Pos}
theorem st_peek {op : CmpOp} {f : D → D → T D} (ho : OpSnd X (compareOp op) f) (i : Nat) (hb : Snd X b mb) {x : Str} {p : Pos} (hm : behindInMarks op b = false) (hN : X.N[i]? = some x := by rfl) (hv : Vis X.env.scope x := by first | exact Or.inl rfl | exact Or.inr (Or.inl rfl) | exact Or.inr (Or.inr rfl)) (hd : (x == ("__debug__" : Str)) = false := by decide)
    (hcd : (x == ("__classdict__" : Str)) = false := by decide) : SndT X (.Compare (.Name x p) [op] [b] pos) (eTest (ePeek f i mb)) := fun {π N0 H0 N H σ ρ Q} I h => by
  have h := T.all_mono (fun _ h => Kd.test (X := X) (N := N) h) (T.all_bind.mp h)
  unfold ePeek at h
  split at h
  · rename_i ds c
    obtain ⟨l, vs, hs1, nl, n0, hl, rl⟩ := I.lst i ds c
    refine ⟨_, pt_cmpR op_wp (pe_var hN hv hd hcd) pe_wp hm, .ref l, hs1, hb I (T.all_mono (fun dy hy => ?_) (T.all_bind.mp h))⟩
    intro u H2 e2 r2
    have lp := N_ne I.hn nl
    have hn2 : HN π (minus N l) H2 := ⟨(I.hn.ext e2).pot, by simp [minus, I.hn.npi], fun a ha => (I.hn.ext e2).isS a (minus_in ha).1⟩
    have less : Kp π (Hide N H2) (Hide (minus N l) H2) := Kp.less fun a ha => (minus_in ha).1
    refine ho hn2 (.lst (by rw [hide_in minus_self]; exact e2.kp l _ lp hl) lp ((rl.mono e2.kp.hide).mono less)) (r2.mono less) (T.all_mono (fun d hd2 => ?_) (T.all_bind.mp hy))
    obtain ⟨bb, rfl, q⟩ := asB_all (T.all_bind.mp hd2)
    intro v H3 e3 r3
    rw [r3.bool]
    exact q (.bl bb) H3 (e2.trans e3) (.bl bb)
  · exact False.elim h
end
end Pd

/-! for .. in zip(a list, a tuple) -/
namespace Pd
open PySem L2 PySem.Spec PyProof.Rows
section
variable {prog : Program} {w : World} {A : Around} {E : Value → Shared → Prop} {s : Shared}
abbrev zy1 (h : Heap) (l : Addr) : Heap := h.push { cls := .type "list_iterator", data := .fields #[.ref l, .int 0 0] }
abbrev zy2 (h : Heap) (l m : Addr) : Heap := (zy1 h l).push { cls := .type "tuple_iterator", data := .fields #[.ref m, .int 0 0] }
abbrev zy3 (h : Heap) (l m : Addr) : Heap := (zy2 h l m).push { cls := .type "tuple", data := .seq #[.ref h.objs.size, .ref (zy1 h l).objs.size] }
abbrev zy4 (h : Heap) (l m : Addr) : Heap := (zy3 h l m).push { cls := .type "tuple", data := .seq #[.none, .none] }
abbrev zy5 (h : Heap) (l m : Addr) : Heap := (zy4 h l m).push { cls := .type "zip", data := .fields #[.none, .bool false, .bool false, .ref (zy2 h l m).objs.size, .ref (zy3 h l m).objs.size] }
theorem zy_new (l m : Addr) (xs ys : Array Value) : Meets (Builtin.«zip.__new__» ⟨[.type "zip", .ref l, .ref m], []⟩) (fun _ R s => s.heap.IsList l xs ∧ s.heap.IsTuple m ys ∧ R (.ok (.ret (.ref (zy4 s.heap l m).objs.size))) { s with heap := zy5 s.heap l m }) :=
  .of_wp fun prog w A R s q => by
    obtain ⟨hp, gs, dr, tk, o⟩ := s; obtain ⟨t1, t2, q⟩ := q
    have sz := sub_zip
    have T1 : Heap.IsList (Shared.heap ⟨hp, gs, dr, tk, o⟩) l xs := t1
    have T2 : Heap.IsTuple (Shared.heap ⟨hp.push { cls := .type "list_iterator", data := .fields #[.ref l, .int 0 0] }, gs, dr, tk, o⟩) m ys := by
      obtain ⟨o', g, r⟩ := id t2
      exact ⟨o', Heap.get?_push_of_some _ g, r⟩
    wp_walk using wpAny_pyIter_list T1, wpAny_pyIter_tuple T2
    exact ⟨_, rfl, q⟩
theorem call_zy {l m : Addr} {xs ys : Array Value} {Q : Value → Shared → Prop} (t1 : s.heap.IsList l xs) (t2 : s.heap.IsTuple m ys)
    (q : ∀ h', IsZip h' (s.heap.objs.size + 4) (s.heap.objs.size + 2) (s.heap.objs.size + 3) .none → IsPair h' (s.heap.objs.size + 2) (.ref s.heap.objs.size) (.ref (s.heap.objs.size + 1)) → IsPair h' (s.heap.objs.size + 3) .none .none → h'.IsListIter s.heap.objs.size l 0 → h'.IsTupleIter (s.heap.objs.size + 1) m 0 → (∀ c o, s.heap.get? c = some o → h'.get? c = some o) → Q (.ref (s.heap.objs.size + 4)) { s with heap := h' }) :
    wpAny (model prog w) A (call (.type "zip") [.ref l, .ref m]) Q E s := by
  refine callType_new F.called_zip (by decide) (F.typeCall_zip_2 _ _) (F.newCall_zip_2 _ _) (fun obj => F.args_object_init_3 obj _ _) F.entry_zip_new (zy_new l m xs ys) ⟨t1, t2, ?_⟩
  have n1 : (zy1 s.heap l).objs.size = s.heap.objs.size + 1 := Heap.size_push ..
  have n2 : (zy2 s.heap l m).objs.size = s.heap.objs.size + 2 := (Heap.size_push ..).trans (by rw [n1])
  have n3 : (zy3 s.heap l m).objs.size = s.heap.objs.size + 3 := (Heap.size_push ..).trans (by rw [n2])
  have n4 : (zy4 s.heap l m).objs.size = s.heap.objs.size + 4 := (Heap.size_push ..).trans (by rw [n3])
  have up := fun (h : Heap) (o : Obj) {c : Addr} {o' : Obj} (z : h.get? c = some o') => Heap.get?_push_of_some o z
  have k5 : (zy5 s.heap l m).get? (zy4 s.heap l m).objs.size = some _ := Heap.get?_push_size _ rfl
  have k4 : (zy5 s.heap l m).get? (zy3 s.heap l m).objs.size = some _ := up _ _ (Heap.get?_push_size _ rfl)
  have k3 : (zy5 s.heap l m).get? (zy2 s.heap l m).objs.size = some _ := up _ _ (up _ _ (Heap.get?_push_size _ rfl))
  have k2 : (zy5 s.heap l m).get? (zy1 s.heap l).objs.size = some _ := up _ _ (up _ _ (up _ _ (Heap.get?_push_size _ rfl)))
  have k1 : (zy5 s.heap l m).get? s.heap.objs.size = some _ := up _ _ (up _ _ (up _ _ (up _ _ (Heap.get?_push_size _ rfl))))
  refine show _ ∧ _ from ?_
  rw [n2, n3, n4] at k5
  rw [n1, n2] at k3
  rw [n3] at k4
  rw [n1] at k2
  rw [n4]
  exact ⟨⟨_, k5, rfl⟩, q _ k5 k3 k4 ⟨_, k1, rfl, rfl⟩ ⟨_, k2, rfl, rfl⟩ fun c o z => up _ _ (up _ _ (up _ _ (up _ _ (up _ _ z))))⟩
end
/-- a list at a and a tuple at b, walked together -/
def ItzY (K : PySem.W.Frag) (a b : Addr) : It where
  go i H := ∃ (xs ys : List V) (x y : V), SqL K H a xs ∧ SqT K H b ys ∧ xs[i]? = some x ∧ ys[i]? = some y
  yld i H v H' := ∃ T x y, v = .ref T ∧ H T = none ∧ H' = upd H T (.tup [x, y]) ∧ (∀ xs, SqL K H a xs → xs[i]? = some x) ∧ ∀ ys, SqT K H b ys → ys[i]? = some y
  stop i H := ∃ xs ys : List V, SqL K H a xs ∧ SqT K H b ys ∧ (xs.length ≤ i ∨ ys.length ≤ i)
theorem turn_zy {P : Program} {w : World} {K : PySem.W.Frag} {elts : List Expr} {kk : Nat} {tpos : Pos} {a b Z I O p1 p2 : Addr} (D : ZipApart Z I O p1 p2 a b) :
    Turn P w K (.Tuple elts kk tpos) (ItzY K a b) [Z, I, O, p1, p2] Z (fun i h => IsZip h Z I O .none ∧ IsPair h I (.ref p1) (.ref p2) ∧ (∃ x y, IsPair h O x y) ∧ h.IsListIter p1 a i ∧ h.IsTupleIter p2 b i) where
  mem := List.mem_cons_self
  obj := fun i h st c hc => by
    obtain ⟨gz, gI, ⟨x, y, gO⟩, f1, f2⟩ := st
    rcases five hc with q | q | q | q | q <;> subst q
    · exact ⟨_, gz, nofun⟩
    · exact ⟨_, gI, nofun⟩
    · exact ⟨_, gO, nofun⟩
    · exact feedL.obj f1
    · exact feedT.obj f2
  keep := fun i h h' st kp => by
    obtain ⟨gz, gI, ⟨x, y, gO⟩, f1, f2⟩ := st
    exact ⟨kp Z (by simp) _ gz, kp I (by simp) _ gI, ⟨x, y, kp O (by simp) _ gO⟩, feedL.same f1 fun o => kp p1 (by simp) o, feedT.same f2 fun o => kp p2 (by simp) o⟩
  item := by
    intro X eP ew eK calm i pins s σ H E J fp st go
    subst eP ew eK
    obtain ⟨gz, gI, ⟨u0, v0, gO⟩, f1, f2⟩ := st
    obtain ⟨xs, ys, x, y, qa, qb, hx, hy⟩ := go
    obtain ⟨its, rv, t1, _⟩ := J.list qa
    obtain ⟨its2, rv2, t2, _⟩ := J.tuple qb
    obtain ⟨u, hu, ru⟩ := rv.get hx
    obtain ⟨v, hv, rv'⟩ := rv2.get hy
    have ltZ : Z < s.heap.objs.size := Heap.lt_size gz
    refine zg_next feedL feedT D gz gI gO f1 f2 t1.isList (show s.heap.IsTuple b its2.toArray from t2) (x := u) (y := v) (by simpa using hu) (by simpa using hv) fun b1 gz1 gO1 f1b f2b gT size kp => ?_
    refine ⟨_, rfl, wpAny_letOwnedTupleGo_zip (s := { s with heap := b1 }) gz1 fun b2 gz2 but => ?_⟩
    have gT2 : b2.get? s.heap.objs.size = some { cls := .type "tuple", data := .seq #[u, v] } := (but.2 _ (Nat.ne_of_gt ltZ)).trans gT
    have made : ObjOk X.prog X.w (upd H s.heap.objs.size (.tup [x, y])) b2 s.heap.objs.size (.tup [x, y]) := ⟨by show 2 ≤ sizeLine; decide, [u, v], .cons ru (.cons rv' .nil), ⟨_, gT2, rfl, _, rfl⟩⟩
    have away : ∀ c o, c ∉ [Z, I, O, p1, p2] → s.heap.get? c = some o → b2.get? c = some o := fun c o n q => (but.2 c fun z => n (by simp [z])).trans (kp c o (fun z => n (by simp [z])) (fun z => n (by simp [z])) (fun z => n (by simp [z])) (fun z => n (by simp [z])) q)
    have J1 : Inv X pins σ (upd H s.heap.objs.size (.tup [x, y])) { s with heap := b2 } := J.turnedNew (t' := s.toks) away fp (Nat.le_refl _) made
    refine ⟨.ref s.heap.objs.size, _, J1, rfl, ⟨_, x, y, rfl, J.hok.fresh (Nat.le_refl _), rfl, fun l hl => by rw [J.list_inj hl qa]; exact hx, fun l hl => by rw [J.tuple_inj hl qb]; exact hy⟩, ⟨gz2, (but.2 _ D.TIz).trans (kp _ _ D.TIz D.TITO D.TIi1 D.TIi2 gI), ⟨u, v, (but.2 _ D.TOz).trans gO1⟩, feedL.same f1b fun o q => (but.2 _ D.i1z).trans q, feedT.same f2b fun o q => (but.2 _ D.i2z).trans q⟩, fun c hc => ?_⟩
    have lt : c < s.heap.objs.size := by
      rcases five hc with q | q | q | q | q <;> subst q
      · exact ltZ
      · exact Heap.lt_size gI
      · exact Heap.lt_size gO
      · exact Heap.lt_size f1.choose_spec.1
      · exact Heap.lt_size f2.choose_spec.1
    rw [upd_ne (Nat.ne_of_lt lt)]
    exact (fp c hc).1
  done := by
    intro X eP ew eK calm i pins s σ H E J fp st stop
    subst eP ew eK
    obtain ⟨gz, gI, ⟨u0, v0, gO⟩, f1, f2⟩ := st
    obtain ⟨xs, ys, qa, qb, en⟩ := stop
    obtain ⟨its, rv, t1, _⟩ := J.list qa
    obtain ⟨its2, rv2, t2, _⟩ := J.tuple qb
    have l1 := rv.length
    have l2 := rv2.length
    have none : its.toArray[i]? = none ∨ its2.toArray[i]? = none := en.imp (fun q => by simp; omega) fun q => by simp; omega
    exact zg_end feedL feedT (J.ok.hd calm) D gz gI gO f1 f2 t1.isList (show s.heap.IsTuple b its2.toArray from t2) none fun b1 kp => ⟨rfl, J.turnedL (t' := s.toks) (ch := [Z, I, O, p1, p2]) (fun c o n q => kp c o (fun z => n (by simp [z])) (fun z => n (by simp [z])) (fun z => n (by simp [z])) (fun z => n (by simp [z])) q) fp⟩
  self := fun A i s Q E st h => wpAny_pyIter_zip st.1 h
def iZipY (K : PySem.W.Frag) (ta : TA) : L2.TI := fun σ H R => ta σ H fun vs H1 => ∃ a b xs ys, vs = [.ref a, .ref b] ∧ SqL K H1 a xs ∧ SqT K H1 b ys ∧ R (ItzY K a b) H1
theorem pi_zipY {X : Cx} {e e2 : Expr} {ta : TA} {p pos tpos : Pos} {elts : List Expr} {kk : Nat} (hg : Gl X "zip") (hm : X.mg "zip" = none) (ha : PA X [e, e2] ta)
    (hs : starEach [e, e2] X.env = (false, eval e X.env) :: starEach [e2] X.env := by rfl) (hpl : (backTo pos (starEach [e2] X.env)).any (·.1) = false := by rfl) :
    PI X (.Tuple elts kk tpos) (.Call (.Name "zip" p) [e, e2] [] pos) (iZipY X.K ta) := by
  refine ⟨fun pins s σ H R J h => Call_ (ld_blt J hg hm PyProof.Rows.boot_zip (PyProof.Rows.callWith_type1 (thn (ha.run pos pins s σ H _ J h) fun us s1 ⟨vs, H1, J1, r1, q1⟩ => ?_) hs hpl))⟩
  obtain ⟨a, b, xs, ys, rfl, qa, qb, q⟩ := q1
  obtain ⟨u1, u2, rfl, r, r'⟩ := vals2 r1
  cases r
  cases r'
  obtain ⟨its, rv, t1, _⟩ := J1.list qa
  obtain ⟨its2, rv2, t2, _⟩ := J1.tuple qb
  have ltb : b < s1.heap.objs.size := by obtain ⟨o1, g, _⟩ := id t2; exact Heap.lt_size g
  refine call_zy t1.isList (show s1.heap.IsTuple b its2.toArray from t2) fun b1 gz gI gO f1 f2 kp => wpAny_pyIter_zip gz ?_
  have J2 : Inv X pins σ H1 { s1 with heap := b1 } := J1.kept (t' := s1.toks) kp
  refine ⟨s1.heap.objs.size + 4, [s1.heap.objs.size + 4, s1.heap.objs.size + 2, s1.heap.objs.size + 3, s1.heap.objs.size, s1.heap.objs.size + 1], _, _, H1, rfl, J2, turn_zy (PySem.W.ktu_apart s1.heap.objs.size a b t1.lt ltb), ⟨gz, gI, ⟨_, _, gO⟩, f1, f2⟩, fun c hc => ?_, q⟩
  have le : s1.heap.objs.size ≤ c := by
    rcases five hc with z | z | z | z | z <;> rw [z] <;> omega
  exact J1.fpOk le (J1.hok.fresh le)
/-- zip of a list and a tuple -/
def zipY : List D → T (List D)
  | [.lst as, .tup bs] => .ret (zipD as bs)
  | _ => .fail
section
variable {X : Cx} {a b : Expr} {pos : Pos}
theorem walk_zipY {π : Addr} {N : Addr → Bool} {H : Hp} {a b : Addr} {as bs : List D} {us : List V} (hb : H a = some (.lst us)) (nb : N a = false) (bp : a ≠ π) (rb : RvL X.K X.prog X.w π (Hide N H) us as) (r : Rv X.K X.prog X.w π (Hide N H) (.ref b) (.tup bs)) : Walk X π (Hide N H) (ItzY X.K a b) (zipD as bs) := fun N' H' i hn k => by
  obtain ⟨a', vs, e, _, sq, _, ra⟩ := sqt_kp k r
  cases e
  obtain ⟨nb', hb'⟩ := vis_some k nb bp hb
  have sq2 : SqL X.K H' a us := .inl (.inl hb')
  have rb' := rb.mono k
  refine ⟨fun d hd => ?_, fun e => ⟨us, vs, sq2, sq, ?_⟩⟩
  · obtain ⟨x, y, hx, hy, rfl⟩ := zipD_get hd
    obtain ⟨u, hu, ru⟩ := rb'.get hx
    obtain ⟨v, hv, rv⟩ := ra.get hy
    refine ⟨⟨us, vs, u, v, sq2, sq, hu, hv⟩, fun z H2 q => ?_⟩
    obtain ⟨T, x', y', rfl, hT, rfl, g1, g2⟩ := q
    have e1 := g1 us sq2
    have e2 := g2 vs sq
    rw [hu] at e1
    rw [hv] at e2
    cases e1; cases e2
    have nw := Ex.new (o := .tup [u, v]) hn.pot hT
    exact ⟨nw, .tup (hide_new (hn.new hT)) (hn.pot.ne hT) (.cons (ru.mono nw.kp.hide) (.cons (rv.mono nw.kp.hide) .nil))⟩
  · rw [zipD_len] at e
    rw [ra.length, rb.length]
    omega
theorem si_zipY {ms : Rho → T (List D)} {p tpos : Pos} {elts : List Expr} {kk : Nat} (hm : X.mg "zip" = none) (ha : SndA X [a, b] ms) (hg : Gl X "zip" := by rfl) (hs : starEach [a, b] X.env = (false, eval a X.env) :: starEach [b] X.env := by rfl) (hpl : (backTo pos (starEach [b] X.env)).any (·.1) = false := by rfl) :
    SndI X (.Tuple elts kk tpos) (.Call (.Name "zip" p) [a, b] [] pos) (iRg zipY ms) := fun {π N0 H0 N H σ ρ R} I h => ⟨_, pi_zipY hg hm pa_wp hs hpl, ha I (T.all_mono (fun ds hd => by
    intro vs H2 e2 r
    unfold zipY at hd
    split at hd
    · cases r with
      | cons r t => cases t with
        | cons r2 t =>
          cases t
          obtain ⟨b, us, rfl, hb, nb, bp, rb⟩ := id r.lstE
          obtain ⟨a, vs, rfl, ha, ra⟩ := id r2.tupE
          exact ⟨b, a, us, vs, rfl, .inl (.inl hb), ha, hd _ _ e2 (walk_zipY hb nb bp rb r2)⟩
    · exact False.elim hd) (T.all_bind.mp h))⟩
end
end Pd

/-! Sums over rising choices of rows: by the last row, and by steps. No program here. -/
namespace Pd
def sumR : List Rat → Rat
  | [] => 0
  | x :: xs => x + sumR xs
theorem sumR_app : ∀ a b : List Rat, sumR (a ++ b) = sumR a + sumR b
  | [], b => (Rat.zero_add _).symm
  | x :: a, b => by
    show x + sumR (a ++ b) = x + sumR a + sumR b
    rw [sumR_app a b, Rat.add_assoc]
theorem sumR_mul (c : Rat) : ∀ a : List Rat, sumR (a.map fun x => c * x) = c * sumR a
  | [] => (Rat.mul_zero _).symm
  | x :: a => by
    show c * x + sumR (a.map fun x => c * x) = c * (x + sumR a)
    rw [sumR_mul c a, Rat.mul_add]
theorem sumR_add {α : Type} (f g : α → Rat) : ∀ a : List α, sumR (a.map fun x => f x + g x) = sumR (a.map f) + sumR (a.map g)
  | [] => (Rat.zero_add _).symm
  | x :: a => by
    show f x + g x + sumR (a.map fun x => f x + g x) = f x + sumR (a.map f) + (g x + sumR (a.map g))
    rw [sumR_add f g a, Rat.add_assoc, Rat.add_assoc, ← Rat.add_assoc (g x), Rat.add_comm (g x), Rat.add_assoc]
theorem sumR_flat {α β : Type} (f : α → List β) (g : β → Rat) : ∀ a : List α, sumR ((a.flatMap f).map g) = sumR (a.map fun x => sumR ((f x).map g))
  | [] => rfl
  | x :: a => by
    rw [List.flatMap_cons, List.map_append, sumR_app, sumR_flat f g a]
    rfl
theorem sumR_congr {α : Type} {f g : α → Rat} : ∀ {a : List α}, (∀ x ∈ a, f x = g x) → sumR (a.map f) = sumR (a.map g)
  | [], _ => rfl
  | x :: a, h => by
    show f x + sumR (a.map f) = g x + sumR (a.map g)
    rw [h x List.mem_cons_self, sumR_congr fun y hy => h y (List.mem_cons_of_mem _ hy)]
/-- rows j, j + 1, .. below n -/
def up (j n : Nat) : List Nat := List.range' j (n - j)
theorem up_succ {j n : Nat} (h : j ≤ n) : up j (n + 1) = up j n ++ [n] := by
  unfold up
  rw [show n + 1 - j = n - j + 1 by omega, List.range'_concat, Nat.mul_comm, Nat.mul_one, show j + (n - j) = n by omega]
theorem up_nil {j n : Nat} (h : n ≤ j) : up j n = [] := by
  unfold up
  rw [show n - j = 0 by omega]
  rfl
theorem up_mem {j n a : Nat} (h : a ∈ up j n) : j ≤ a ∧ a < n := by
  unfold up at h
  have := List.mem_range'_1.mp h
  omega
/-- the sum over rising choices for the letters i, i + 1, .. (m of them) from rows j on, below n; g of where it ends -/
def Bg (w : Nat → Nat → Rat) (n : Nat) (g : Nat → Rat) : Nat → Nat → Nat → Rat
  | _, 0, j => g j
  | i, m + 1, j => sumR ((up j n).map fun a => w i a * Bg w n g (i + 1) m (a + 1))
section
variable {w : Nat → Nat → Rat}
theorem Bg_last {n : Nat} {g : Nat → Rat} : ∀ (m i j : Nat), Bg w n g i (m + 1) j = Bg w n (fun j => sumR ((up j n).map fun a => w (i + m) a * g (a + 1))) i m j
  | 0, i, j => rfl
  | m + 1, i, j => by
    show sumR ((up j n).map fun a => w i a * Bg w n g (i + 1) (m + 1) (a + 1)) = sumR ((up j n).map fun a => w i a * Bg w n (fun j => sumR ((up j n).map fun a => w (i + (m + 1)) a * g (a + 1))) (i + 1) m (a + 1))
    refine sumR_congr fun a _ => ?_
    rw [Bg_last m (i + 1) (a + 1), show i + 1 + m = i + (m + 1) by omega]
/-- one row more -/
theorem Bg_row {n : Nat} : ∀ (m i j : Nat), j ≤ n → Bg w (n + 1) (fun _ => 1) i (m + 1) j = Bg w n (fun _ => 1) i (m + 1) j + Bg w n (fun _ => 1) i m j * w (i + m) n
  | 0, i, j, h => by
    show sumR ((up j (n + 1)).map fun a => w i a * 1) = sumR ((up j n).map fun a => w i a * 1) + 1 * w i n
    rw [up_succ h, List.map_append, sumR_app, Rat.one_mul]
    congr 1
    show w i n * 1 + 0 = w i n
    rw [Rat.mul_one, Rat.add_zero]
  | m + 1, i, j, h => by
    show sumR ((up j (n + 1)).map fun a => w i a * Bg w (n + 1) (fun _ => 1) (i + 1) (m + 1) (a + 1)) = sumR ((up j n).map fun a => w i a * Bg w n (fun _ => 1) (i + 1) (m + 1) (a + 1)) + sumR ((up j n).map fun a => w i a * Bg w n (fun _ => 1) (i + 1) m (a + 1)) * w (i + (m + 1)) n
    rw [up_succ h, List.map_append, sumR_app]
    have last : sumR ([n].map fun a => w i a * Bg w (n + 1) (fun _ => 1) (i + 1) (m + 1) (a + 1)) = 0 := by
      show w i n * sumR ((up (n + 1) (n + 1)).map _) + 0 = 0
      rw [up_nil (Nat.le_refl _), Rat.add_zero]
      exact Rat.mul_zero _
    rw [last, Rat.add_zero, Rat.mul_comm (sumR _) (w (i + (m + 1)) n), ← sumR_mul, List.map_map, ← sumR_add]
    refine sumR_congr fun a ha => ?_
    rw [Bg_row m (i + 1) (a + 1) (by have := up_mem ha; omega), Rat.mul_add, show i + 1 + m = i + (m + 1) by omega]
    congr 1
    show w i a * (Bg w n (fun _ => 1) (i + 1) m (a + 1) * w (i + (m + 1)) n) = w (i + (m + 1)) n * (w i a * Bg w n (fun _ => 1) (i + 1) m (a + 1))
    rw [← Rat.mul_assoc, Rat.mul_comm]
end
/-- the program's steps: k letters, the first n rows -/
def dpS (w : Nat → Nat → Rat) : Nat → Nat → Rat
  | 0, _ => 1
  | _ + 1, 0 => 0
  | k + 1, n + 1 => dpS w (k + 1) n + dpS w k n * w k n
theorem Bg_dp (w : Nat → Nat → Rat) : ∀ (n k : Nat), Bg w n (fun _ => 1) 0 k 0 = dpS w k n
  | _, 0 => by unfold dpS; rfl
  | 0, k + 1 => by
    show sumR ((up 0 0).map _) = dpS w (k + 1) 0
    rw [up_nil (Nat.le_refl _)]
    unfold dpS
    rfl
  | n + 1, k + 1 => by
    rw [Bg_row k 0 0 (Nat.zero_le _), Bg_dp w n (k + 1), Bg_dp w n k, Nat.zero_add]
    rw [dpS]
/-! the law's own choices -/
def st (l : List Nat) : Nat := match l.getLast? with
  | none => 0
  | some a => a + 1
def chs (n : Nat) : Nat → List (List Nat)
  | 0 => [[]]
  | k + 1 => (chs n k).flatMap fun one => (up (st one) n).map fun a => one ++ [a]
def pr (w : Nat → Nat → Rat) : Nat → List Nat → Rat
  | _, [] => 1
  | i, a :: as => w i a * pr w (i + 1) as
theorem pr_app {w : Nat → Nat → Rat} {a : Nat} : ∀ (l : List Nat) (i : Nat), pr w i (l ++ [a]) = pr w i l * w (i + l.length) a
  | [], i => by
    show w i a * 1 = 1 * w i a
    rw [Rat.mul_one, Rat.one_mul]
  | b :: l, i => by
    show w i b * pr w (i + 1) (l ++ [a]) = w i b * pr w (i + 1) l * w (i + (l.length + 1)) a
    rw [pr_app l (i + 1), Rat.mul_assoc, show i + 1 + l.length = i + (l.length + 1) by omega]
theorem chs_len {n : Nat} : ∀ {k : Nat} {l : List Nat}, l ∈ chs n k → l.length = k
  | 0, l, h => by
    rw [List.mem_singleton.mp h]
    rfl
  | k + 1, l, h => by
    obtain ⟨one, h1, h2⟩ := List.mem_flatMap.mp h
    obtain ⟨a, _, rfl⟩ := List.mem_map.mp h2
    rw [List.length_append, chs_len h1]
    rfl
theorem st_app (l : List Nat) (a : Nat) : st (l ++ [a]) = a + 1 := by
  unfold st
  simp
theorem chs_sum {w : Nat → Nat → Rat} {n : Nat} : ∀ (k : Nat) (g : Nat → Rat), sumR ((chs n k).map fun l => pr w 0 l * g (st l)) = Bg w n g 0 k 0
  | 0, g => by
    show 1 * g 0 + 0 = g 0
    rw [Rat.one_mul, Rat.add_zero]
  | k + 1, g => by
    show sumR (((chs n k).flatMap fun one => (up (st one) n).map fun a => one ++ [a]).map fun l => pr w 0 l * g (st l)) = _
    rw [sumR_flat, Bg_last k 0 0, ← chs_sum k]
    refine sumR_congr fun l hl => ?_
    rw [List.map_map, ← sumR_mul, List.map_map]
    refine sumR_congr fun a _ => ?_
    show pr w 0 (l ++ [a]) * g (st (l ++ [a])) = pr w 0 l * (w (0 + k) a * g (a + 1))
    rw [pr_app, st_app, chs_len hl, Rat.mul_assoc]
/-- the choices' products add up to what the steps tell -/
theorem chs_dp (w : Nat → Nat → Rat) (n k : Nat) : sumR ((chs n k).map (pr w 0)) = dpS w k n := by
  rw [← Bg_dp w n k, ← chs_sum k]
  refine sumR_congr fun l _ => ?_
  rw [Rat.mul_one]
end Pd

/-! Joined rows: the cuts' products add up; rows and letters turned about: the same sum. -/
namespace Pd
theorem sumR_mulr (c : Rat) (a : List Rat) : sumR (a.map fun x => x * c) = sumR a * c := by
  rw [Rat.mul_comm, ← sumR_mul]
  congr 1
  exact List.map_congr_left fun x _ => Rat.mul_comm _ _
theorem sumR_zero {α : Type} {f : α → Rat} : ∀ {a : List α}, (∀ x ∈ a, f x = 0) → sumR (a.map f) = 0
  | [], _ => rfl
  | x :: a, h => by
    show f x + sumR (a.map f) = 0
    rw [h x List.mem_cons_self, sumR_zero fun y hy => h y (List.mem_cons_of_mem _ hy), Rat.add_zero]
/-- letters from i on, rows from n on -/
def sh (w : Nat → Nat → Rat) (i n : Nat) : Nat → Nat → Rat := fun k a => w (i + k) (n + a)
theorem dp0 (w : Nat → Nat → Rat) (n : Nat) : dpS w 0 n = 1 := by
  cases n <;> rfl
theorem range_last (k : Nat) : List.range (k + 1) = List.range k ++ [k] := List.range_succ
theorem dp_join (w : Nat → Nat → Rat) (n : Nat) : ∀ (m k : Nat), dpS w k (n + m) = sumR ((List.range (k + 1)).map fun i => dpS w i n * dpS (sh w i n) (k - i) m)
  | 0, k => by
    rw [range_last, List.map_append, sumR_app, sumR_zero (f := fun i => dpS w i n * dpS (sh w i n) (k - i) 0) (fun i hi => by
      have := List.mem_range.mp hi
      show dpS w i n * dpS (sh w i n) (k - i) 0 = 0
      rw [show k - i = (k - i - 1) + 1 by omega]
      exact Rat.mul_zero _), Rat.zero_add]
    show dpS w k (n + 0) = dpS w k n * dpS (sh w k n) (k - k) 0 + 0
    rw [Nat.sub_self, dp0, Rat.mul_one, Rat.add_zero, Nat.add_zero]
  | m + 1, 0 => by
    rw [dp0]
    show 1 = dpS w 0 n * dpS (sh w 0 n) (0 - 0) (m + 1) + 0
    rw [dp0, Nat.sub_self, dp0, Rat.mul_one, Rat.add_zero]
  | m + 1, k + 1 => by
    have e : dpS w (k + 1) (n + (m + 1)) = dpS w (k + 1) (n + m) + dpS w k (n + m) * w k (n + m) := rfl
    rw [e, dp_join w n m (k + 1), dp_join w n m k, range_last (k + 1), List.map_append, List.map_append, sumR_app, sumR_app]
    have last : ∀ q, sumR ([k + 1].map fun i => dpS w i n * dpS (sh w i n) (k + 1 - i) q) = dpS w (k + 1) n := fun q => by
      show dpS w (k + 1) n * dpS (sh w (k + 1) n) (k + 1 - (k + 1)) q + 0 = _
      rw [Nat.sub_self, dp0, Rat.mul_one, Rat.add_zero]
    rw [last, last, Rat.add_comm (sumR _) (dpS w (k + 1) n), Rat.add_assoc, Rat.add_comm (dpS w (k + 1) n)]
    congr 1
    rw [← sumR_mulr, List.map_map, ← sumR_add]
    refine sumR_congr fun i hi => ?_
    have hk := List.mem_range.mp hi
    show dpS w i n * dpS (sh w i n) (k + 1 - i) m + dpS w i n * dpS (sh w i n) (k - i) m * w k (n + m) = dpS w i n * dpS (sh w i n) (k + 1 - i) (m + 1)
    rw [show k + 1 - i = (k - i) + 1 by omega]
    have s : dpS (sh w i n) (k - i + 1) (m + 1) = dpS (sh w i n) (k - i + 1) m + dpS (sh w i n) (k - i) m * sh w i n (k - i) m := rfl
    rw [s, Rat.mul_add, Rat.mul_assoc]
    congr 3
    show w k (n + m) = w (i + (k - i)) (n + m)
    rw [show i + (k - i) = k by omega]
/-! turned about -/
theorem up_head {j n : Nat} (h : j < n) : up j n = j :: up (j + 1) n := by
  unfold up
  rw [show n - j = (n - (j + 1)) + 1 by omega]
  rfl
theorem Bg_front {w : Nat → Nat → Rat} {n i m j : Nat} {g : Nat → Rat} (h : j < n) : Bg w n g i (m + 1) j = w i j * Bg w n g (i + 1) m (j + 1) + Bg w n g i (m + 1) (j + 1) := by
  show sumR ((up j n).map _) = _ + sumR ((up (j + 1) n).map _)
  rw [up_head h]
  rfl
def rv (w : Nat → Nat → Rat) (K N : Nat) : Nat → Nat → Rat := fun i a => w (K - 1 - i) (N - 1 - a)
theorem dp_rv {w : Nat → Nat → Rat} {K N : Nat} : ∀ (q m : Nat), m ≤ K → q ≤ N → dpS (rv w K N) m q = Bg w N (fun _ => 1) (K - m) m (N - q)
  | q, 0, _, _ => by
    rw [dp0]
    rfl
  | 0, m + 1, _, _ => by
    show 0 = sumR ((up (N - 0) N).map _)
    rw [up_nil (by omega)]
    rfl
  | q + 1, m + 1, hm, hq => by
    have s : dpS (rv w K N) (m + 1) (q + 1) = dpS (rv w K N) (m + 1) q + dpS (rv w K N) m q * rv w K N m q := rfl
    rw [s, dp_rv q (m + 1) hm (by omega), dp_rv q m (by omega) (by omega), Bg_front (show N - (q + 1) < N by omega), show N - (q + 1) + 1 = N - q by omega, show K - (m + 1) + 1 = K - m by omega, Rat.add_comm]
    congr 1
    rw [Rat.mul_comm]
    congr 1
    show w (K - 1 - m) (N - 1 - q) = w (K - (m + 1)) (N - (q + 1))
    rw [show K - 1 - m = K - (m + 1) by omega, show N - 1 - q = N - (q + 1) by omega]
/-- the turned word over the turned rows -/
theorem dp_turn (w : Nat → Nat → Rat) (k n : Nat) : dpS (rv w k n) k n = dpS w k n := by
  rw [dp_rv n k (Nat.le_refl _) (Nat.le_refl _), Nat.sub_self, Nat.sub_self, Bg_dp]
end Pd

/-! The sums behind: turned about, the last rows alone. -/
namespace Pd
theorem dp_congr {v w : Nat → Nat → Rat} {K N : Nat} (h : ∀ k a, k < K → a < N → v k a = w k a) : ∀ (a k : Nat), k ≤ K → a ≤ N → dpS v k a = dpS w k a
  | a, 0, _, _ => by rw [dp0, dp0]
  | 0, k + 1, _, _ => rfl
  | a + 1, k + 1, hk, ha => by
    show dpS v (k + 1) a + dpS v k a * v k a = dpS w (k + 1) a + dpS w k a * w k a
    rw [dp_congr h a (k + 1) hk (by omega), dp_congr h a k (by omega) (by omega), h k a (by omega) (by omega)]
theorem up_shift (s j n : Nat) : up (s + j) (s + n) = (up j n).map (s + ·) := by
  unfold up
  rw [List.map_add_range', show s + n - (s + j) = n - j by omega]
theorem Bg_shift {w : Nat → Nat → Rat} {s n : Nat} : ∀ (m i j : Nat), Bg w (s + n) (fun _ => 1) i m (s + j) = Bg (fun i a => w i (s + a)) n (fun _ => 1) i m j
  | 0, i, j => rfl
  | m + 1, i, j => by
    show sumR ((up (s + j) (s + n)).map _) = sumR ((up j n).map _)
    rw [up_shift, List.map_map]
    refine sumR_congr fun a _ => ?_
    show w i (s + a) * Bg w (s + n) (fun _ => 1) (i + 1) m (s + a + 1) = w i (s + a) * Bg (fun i a => w i (s + a)) n (fun _ => 1) (i + 1) m (a + 1)
    rw [Nat.add_assoc s a 1, Bg_shift m (i + 1) (a + 1)]
/-- the steps over the turned rows and letters tell the sum over the last rows -/
theorem dp_behind {w : Nat → Nat → Rat} {K n at_ : Nat} (h : at_ ≤ n) : dpS (rv w K n) K (n - at_) = dpS (fun i a => w i (at_ + a)) K (n - at_) := by
  rw [dp_rv (n - at_) K (Nat.le_refl _) (by omega), ← Bg_dp, Nat.sub_self, show n - (n - at_) = at_ by omega]
  have := Bg_shift (w := w) (s := at_) (n := n - at_) K 0 0
  rw [Nat.add_zero, show at_ + (n - at_) = n by omega] at this
  exact this
end Pd

namespace Pd
open PySem L2 PySem.Spec PyProof.Rows
/-! Ratio(top, bottom) -/
abbrev topR (i : Nat) : Stmt := PySem.Challenge.pw_aheadsums_k22_whole_words_over_rows.main.body.getD i (.Pass ⟨0, 0, 0, 0⟩)
theorem op_fdivG {X : Cx} : OpR X (binaryOp .FloorDiv) (rI (fun i j => j ≠ 0 ∧ Builtin.divisionGoesByPylong i j = false) fun i j => .int (i.fdiv j)) := L2.opI fun _ _ _ _ _ _ _ hc q => floordiv_int hc.1 q (.inl hc.2)
/-- what is divided by -/
def ratioBy (t b : Int) : Int := if b < 0 then -((Nat.gcd t.natAbs b.natAbs : Nat) : Int) else ((Nat.gcd t.natAbs b.natAbs : Nat) : Int)
def f_Ratio_init : List D → T (List (Str × D))
  | [.int t, .int b] => cond (decide (b ≠ 0) && !Builtin.divisionGoesByPylong t (ratioBy t b) && !Builtin.divisionGoesByPylong b (ratioBy t b)) (.ret [("_top", .int (t.fdiv (ratioBy t b))), ("_bottom", .int (b.fdiv (ratioBy t b)))]) .fail
  | _ => .fail
theorem iteT' {b : Bool} {p q : Prop} (h : b = true) (x : p) : if b = true then p else q := by rw [if_pos h]; exact x
theorem iteF' {b : Bool} {p q : Prop} (h : b = false) (x : q) : if b = true then p else q := by rw [if_neg (by rw [h]; exact Bool.false_ne_true)]; exact x
section
variable {P : Program} {w : World} {K : PySem.W.Frag} {mg : Str → Option Value} {base : Heap}
abbrev s_Rinit : Stmt := inClass (topR 23) 0
theorem sc_Rinit : FnScope ["self", "top", "bottom", "common"] ["self", "top", "bottom"] (defScope s_Rinit) := ⟨rfl, rfl, rfl, by decide +kernel, rfl, by decide +kernel, by decide +kernel⟩
theorem g_Rinit {a_i a_int : Addr} {d_i d_int : FuncData} {C : Addr} {dvs : List V} (F : FunD K "__init__" "Ratio.__init__" (defArgs s_Rinit) (defBody s_Rinit) (defScope s_Rinit) dvs [] a_i d_i) (cl : Cls K C) (at_ : ClsAt K "Ratio" C) (nt : NoAttr K C "_top") (nb : NoAttr K C "_bottom") (mi : mg "is_integer" = some (.ref a_int)) (ki : PySem.W.keepIn K (.ref a_int) = true)
    (GI : FnOk P w K mg base CX0 1 a_int d_int ["value"] (spD K P w 1 (fun ds => match ds with | [.int _] => .ret (.bl true) | _ => .fail))) (BI : Binds K d_int ["value"] []) (mG : mg "gcd" = some (.builtin "math.gcd")) : FnOk P w K mg base CX0 2 a_i d_i ["self", "top", "bottom"] (spI K P w "Ratio" 2 f_Ratio_init) := by
  have nd := sc_Rinit.nd
  refine F.ok (k := 1) sc_Rinit (fun vs H Q E h => ?_) (fun cdv A outer s H vs Q E hr h => ?_)
  · obtain ⟨π, N, x, dx, C, args, ds, rfl, hl, _⟩ := h
    rw [List.length_cons, hl]; rfl
  · suffices z : ∃ t, PSs (cxOf CX0 P w K mg base ["self", "top", "bottom", "common"] "Ratio.__init__" (defScope s_Rinit) a_i cdv A outer s H E).nox (defBody s_Rinit) t ∧ t { nx := fun _ H' => Q .non H', rt := Q } (start ["self", "top", "bottom", "common"] vs) H by
      obtain ⟨t, a, b⟩ := z
      exact ⟨t, a.nox, b⟩
    refine ⟨_, pss_cons (ps_if (pt_not (pt_val (pe_call GI (hr.mono (by decide)) rfl mi ki BI .nil pass0 (pa_cons (pv 1) pa_nil)) (by intro _; rfl))) pss_wp pss_nil)
      (pss_cons (ps_if (PW.pt (pw_or (pt_not (pt_val (pe_call GI (hr.mono (by decide)) rfl mi ki BI .nil pass0 (pa_cons (pv 2) pa_nil)) (by intro _; rfl))) (pw_or1 (pt_cmpR (op_eqD hr.units) (pv 2) pe_int (nomark _))))) pss_wp pss_nil)
      (pss_cons (ps_set (i := 3) nd rfl (.inl rfl) (pe_callBfun cr_gcd rfl mG (pa_cons (pv 1) (pa_cons (pv 2) pa_nil))))
      (pss_cons (ps_if (pt_cmpR op_lt (pv 2) pe_int (nomark _)) (pss_one (ps_set (i := 3) nd rfl (.inl rfl) (pe_un un_neg (pv 3)))) pss_nil)
      (pss_cons (ps_fld (pv 0) (pe_op op_fdivG (pv 1) (pv 3)) rfl)
      (pss_one (ps_fld (pv 0) (pe_op op_fdivG (pv 2) (pv 3)) rfl)))))), ?_⟩
    obtain ⟨π, N, x, dx, C2, args, ds, rfl, hl, hn, Nx, hx, hc, ra, hall⟩ := h
    have ec := at_.one hc
    subst ec
    unfold f_Ratio_init at hall
    split at hall
    · rename_i t b
      cases ra with
      | cons r1 ra =>
      cases ra with
      | cons r2 ra =>
      cases ra
      cases r1
      cases r2
      obtain ⟨hb, hall⟩ := cond_all hall
      simp only [Bool.and_eq_true, Bool.not_eq_true', decide_eq_true_eq] at hb
      obtain ⟨⟨b0, p1⟩, p2⟩ := hb
      have xpi : x ≠ π := N_ne hn Nx
      have ask : ∀ (i : Int) (H1 : Hp) (Q' : VK), Ex π H H1 → (∀ H2, Ex π H H2 → Q' (.bl true) H2) → spD K P w 1 (fun ds => match ds with | [.int _] => .ret (.bl true) | _ => .fail) [V.int i] H1 Q' E0 := fun i H1 Q' e k =>
        ⟨π, N, [.int i], hn.ext e, .cons (.int i) .nil, rfl, fun v H2 e2 r => by rw [r.bool]; exact k H2 (e.trans e2)⟩
      refine ⟨_, rfl, ask t H _ (Ex.refl hn.pot) fun H1 e1 => ⟨true, rfl, iteF' rfl ?_⟩⟩
      refine ⟨_, rfl, ask b H1 _ e1 fun H2 e2 => ⟨true, rfl, iteF' rfl ?_⟩⟩
      refine ⟨_, rfl, .int b, .int 0, .int b, .int 0, rfl, rfl, _, rfl, iteF' (by simp [PyData.eqv, b0]) ?_⟩
      have hx2 : H2 x = some (.ins C2 dx []) := e2.kp x _ xpi hx
      have bt : ¬ (("_top" : Str) = "_bottom") := by decide +kernel
      have fin : ∀ (c : Int), c = ratioBy t b → Q .non (upd (upd H2 x (.ins C2 dx (putF "_top" (.int (t.fdiv c)) []))) x (.ins C2 dx (putF "_bottom" (.int (b.fdiv c)) (putF "_top" (.int (t.fdiv c)) [])))) := fun c ec => by
        subst ec
        refine hall _ [("_top", .int (t.fdiv (ratioBy t b))), ("_bottom", .int (b.fdiv (ratioBy t b)))] (fun a o n1 n2 h => ?_) ?_ ?_ (.cons (.int _) (.cons (.int _) .nil))
        · rw [upd_ne n2, upd_ne n2]
          exact e2.kp a o n1 h
        · obtain ⟨p, q, h, r⟩ := e2.pot
          exact ⟨p, q, by rw [upd_ne xpi.symm, upd_ne xpi.symm]; exact h, r⟩
        · rw [upd_same]
          show some (HO.ins C2 dx (if ("_top" : Str) = "_bottom" then [("_top", V.int (b.fdiv (ratioBy t b)))] else ("_top", V.int (t.fdiv (ratioBy t b))) :: putF "_bottom" (V.int (b.fdiv (ratioBy t b))) [])) = _
          rw [if_neg bt]
          rfl
      have g0 : ratioBy t b ≠ 0 := by
        have : Nat.gcd t.natAbs b.natAbs ≠ 0 := fun z => b0 (Int.natAbs_eq_zero.mp (Nat.eq_zero_of_gcd_eq_zero_right z))
        unfold ratioBy
        split <;> omega
      refine ⟨_, rfl, _, rfl, t, b, rfl, ?_⟩
      refine ⟨_, rfl, _, _, rfl, rfl, _, rfl, ?_⟩
      by_cases c : b < 0
      · refine iteT' (decide_eq_true c) ⟨_, rfl, _, rfl, ?_⟩
        have eg : -((Nat.gcd t.natAbs b.natAbs : Nat) : Int) = ratioBy t b := by unfold ratioBy; rw [if_pos c]
        refine ⟨_, rfl, _, rfl, _, _, rfl, rfl, ⟨by rw [eg]; exact g0, by rw [eg]; exact p1⟩, _, rfl, x, C2, dx, [], rfl, hx2, cl, nt, by decide, ?_⟩
        refine ⟨_, rfl, _, rfl, _, _, rfl, rfl, ⟨by rw [eg]; exact g0, by rw [eg]; exact p2⟩, _, rfl, x, C2, dx, _, rfl, upd_same, cl, nb, (show 1 < 1000 by decide), ?_⟩
        exact fin _ eg
      · refine iteF' (decide_eq_false c) ?_
        have eg : ((Nat.gcd t.natAbs b.natAbs : Nat) : Int) = ratioBy t b := by unfold ratioBy; rw [if_neg c]
        refine ⟨_, rfl, _, rfl, _, _, rfl, rfl, ⟨by rw [eg]; exact g0, by rw [eg]; exact p1⟩, _, rfl, x, C2, dx, [], rfl, hx2, cl, nt, by decide, ?_⟩
        refine ⟨_, rfl, _, rfl, _, _, rfl, rfl, ⟨by rw [eg]; exact g0, by rw [eg]; exact p2⟩, _, rfl, x, C2, dx, _, rfl, upd_same, cl, nb, (show 1 < 1000 by decide), ?_⟩
        exact fin _ eg
    · exact False.elim hall
end
end Pd

namespace Pd
open PySem L2 PySem.Spec PyProof.Rows
section
variable {P : Program} {w : World} {K : PySem.W.Frag} {mg : Str → Option Value} {base : Heap}
abbrev s_Radd : Stmt := inClass (topR 23) 5
theorem sc_Radd : FnScope ["self", "other", "top", "bottom"] ["self", "other"] (defScope s_Radd) := ⟨rfl, rfl, rfl, by decide +kernel, rfl, by decide +kernel, by decide +kernel⟩
def m_Radd (ft : List D → T D) : Rho → T Out := bSeq (sAsg (gTp 2 (gsCons (gNm 2) (gsCons (gNm 3) gsNil))) (eCall 1 ft (aCons (eVar 1) aNil)))
  (sRet (eMake "Ratio" 2 [] f_Ratio_init (aCons (eBin opAdd (eBin opMulT (eUn (attrD "Ratio" "_top") (eVar 0)) (eVar 3)) (eBin opMulT (eVar 2) (eUn (attrD "Ratio" "_bottom") (eVar 0)))) (aCons (eBin opMulT (eUn (attrD "Ratio" "_bottom") (eVar 0)) (eVar 3)) aNil))))
def f_Radd (ft : List D → T D) : List D → T D := runB 4 (m_Radd ft)
theorem g_Radd {ft : List D → T D} {a_f a_i a_t C : Addr} {d_f d_i d_t : FuncData} (F : Fun K "__add__" "Ratio.__add__" s_Radd a_f d_f) (M : Mk K C a_i) (cl : Cls K C) (at_ : ClsAt K "Ratio" C) (nt : NoAttr K C "_top") (nb : NoAttr K C "_bottom") (mC : mg "Ratio" = some (.ref C)) (mt : mg "top_and_bottom" = some (.ref a_t)) (kt : PySem.W.keepIn K (.ref a_t) = true)
    (GI : FnOk P w K mg base CX0 2 a_i d_i ["self", "top", "bottom"] (spI K P w "Ratio" 2 f_Ratio_init)) (BI : Binds K d_i ["self", "top", "bottom"] []) (GT : FnOk P w K mg base CX0 4 a_t d_t ["number"] (spD K P w 1 ft)) (BT : Binds K d_t ["number"] []) :
    FnOk P w K mg base CX0 5 a_f d_f ["self", "other"] (spD K P w 2 (f_Radd ft)) := by
  have nd := sc_Radd.nd
  refine fn_ok (n := 4) (p := 2) (m := m_Radd ft) (k := 4) F sc_Radd rfl rfl rfl (fun cdv A outer s H E hr => ?_)
  exact b_cons (ss_asg (s_call GT (hr.mono (by decide)) mt kt BT (sa_cons (sv 1) sa_nil)) (g_tup rfl (gs_cons (g_name nd) (gs_cons (g_name nd) gs_nil))))
    (b_one (ss_ret (s_make (dvs := []) (dds := []) M GI (hr.mono (by decide)) mC at_ BI .nil (fun _ _ => .nil) (sa_cons (s_bin os_add (s_bin os_mulT (s_attr at_ cl nt (sv 0)) (sv 3)) (s_bin os_mulT (sv 2) (s_attr at_ cl nb (sv 0)))) (sa_cons (s_bin os_mulT (s_attr at_ cl nb (sv 0)) (sv 3)) sa_nil)))))
end
end Pd

/-! The other methods of Ratio that only reckon with its own two numbers. -/
namespace Pd
open PySem L2 PySem.Spec PyProof.Rows
/-- what Ratio's methods ask of what stands around them -/
structure RH (P : Program) (w : World) (K : PySem.W.Frag) (mg : Str → Option Value) (base : Heap) (ft : List D → T D) (C a_i a_t : Addr) (d_i d_t : FuncData) : Prop where
  M : Mk K C a_i
  cl : Cls K C
  at_ : ClsAt K "Ratio" C
  nt : NoAttr K C "_top"
  nb : NoAttr K C "_bottom"
  mC : mg "Ratio" = some (.ref C)
  mt : mg "top_and_bottom" = some (.ref a_t)
  kt : PySem.W.keepIn K (.ref a_t) = true
  GI : FnOk P w K mg base CX0 2 a_i d_i ["self", "top", "bottom"] (spI K P w "Ratio" 2 f_Ratio_init)
  BI : Binds K d_i ["self", "top", "bottom"] []
  GT : FnOk P w K mg base CX0 4 a_t d_t ["number"] (spD K P w 1 ft)
  BT : Binds K d_t ["number"] []
def aT : Rho → T D := eUn (attrD "Ratio" "_top") (eVar 0)
def aB : Rho → T D := eUn (attrD "Ratio" "_bottom") (eVar 0)
def mkR (x y : Rho → T D) : Rho → T D := eMake "Ratio" 2 [] f_Ratio_init (aCons x (aCons y aNil))
def tbR (ft : List D → T D) : Rho → T Out := sAsg (gTp 2 (gsCons (gNm 2) (gsCons (gNm 3) gsNil))) (eCall 1 ft (aCons (eVar 1) aNil))
section
variable {P : Program} {w : World} {K : PySem.W.Frag} {mg : Str → Option Value} {base : Heap} {ft : List D → T D} {C a_i a_t a_f : Addr} {d_i d_t d_f : FuncData}
/-! top, bottom -/
abbrev s_Rtop : Stmt := inClass (topR 23) 1
theorem sc_Rtop : FnScope ["self"] ["self"] (defScope s_Rtop) := ⟨rfl, rfl, rfl, by decide +kernel, rfl, by decide +kernel, by decide +kernel⟩
def f_Rtop : List D → T D := runB 1 (sRet aT)
theorem g_Rtop (F : Fun K "top" "Ratio.top" s_Rtop a_f d_f) (R : RH P w K mg base ft C a_i a_t d_i d_t) : FnOk P w K mg base CX0 1 a_f d_f ["self"] (spD K P w 1 f_Rtop) :=
  fn_ok (n := 1) (p := 1) (m := sRet aT) (k := 0) F sc_Rtop rfl rfl rfl (fun cdv A outer s H E hr => b_one (ss_ret (s_attr R.at_ R.cl R.nt (sv 0))))
abbrev s_Rbottom : Stmt := inClass (topR 23) 2
theorem sc_Rbottom : FnScope ["self"] ["self"] (defScope s_Rbottom) := ⟨rfl, rfl, rfl, by decide +kernel, rfl, by decide +kernel, by decide +kernel⟩
def f_Rbottom : List D → T D := runB 1 (sRet aB)
theorem g_Rbottom (F : Fun K "bottom" "Ratio.bottom" s_Rbottom a_f d_f) (R : RH P w K mg base ft C a_i a_t d_i d_t) : FnOk P w K mg base CX0 1 a_f d_f ["self"] (spD K P w 1 f_Rbottom) :=
  fn_ok (n := 1) (p := 1) (m := sRet aB) (k := 0) F sc_Rbottom rfl rfl rfl (fun cdv A outer s H E hr => b_one (ss_ret (s_attr R.at_ R.cl R.nb (sv 0))))
/-! sign -/
def m_Rsign : Rho → T Out := bSeq (sIf (eTest (eBin opLt aT (eC (.int 0)))) (sRet (eUn uNeg (eC (.int 1)))) bNil) (bSeq (sIf (eTest (eBin opGt aT (eC (.int 0)))) (sRet (eC (.int 1))) bNil) (sRet (eC (.int 0))))
def f_Rsign : List D → T D := runB 1 m_Rsign
/-! is_whole -/
def m_Rwhole : Rho → T Out := sRet (eBin opEq aB (eC (.int 1)))
def f_Rwhole : List D → T D := runB 1 m_Rwhole
/-! + - * by two numbers -/
def m_Rsum (f : D → D → T D) (ft : List D → T D) : Rho → T Out := bSeq (tbR ft) (sRet (mkR (eBin f (eBin opMulG aT (eVar 3)) (eBin opMulG (eVar 2) aB)) (eBin opMulG aB (eVar 3))))
def f_Radd' (ft : List D → T D) : List D → T D := runB 4 (m_Rsum opAdd ft)
abbrev s_Rsub : Stmt := inClass (topR 23) 7
theorem sc_Rsub : FnScope ["self", "other", "top", "bottom"] ["self", "other"] (defScope s_Rsub) := ⟨rfl, rfl, rfl, by decide +kernel, rfl, by decide +kernel, by decide +kernel⟩
def f_Rsub (ft : List D → T D) : List D → T D := runB 4 (m_Rsum opSub ft)
theorem g_Rsub (F : Fun K "__sub__" "Ratio.__sub__" s_Rsub a_f d_f) (R : RH P w K mg base ft C a_i a_t d_i d_t) : FnOk P w K mg base CX0 5 a_f d_f ["self", "other"] (spD K P w 2 (f_Rsub ft)) := by
  have nd := sc_Rsub.nd
  refine fn_ok (n := 4) (p := 2) (m := m_Rsum opSub ft) (k := 4) F sc_Rsub rfl rfl rfl (fun cdv A outer s H E hr => ?_)
  exact b_cons (ss_asg (s_call R.GT (hr.mono (by decide)) R.mt R.kt R.BT (sa_cons (sv 1) sa_nil)) (g_tup rfl (gs_cons (g_name nd) (gs_cons (g_name nd) gs_nil))))
    (b_one (ss_ret (s_make (dvs := []) (dds := []) R.M R.GI (hr.mono (by decide)) R.mC R.at_ R.BI .nil (fun _ _ => .nil) (sa_cons (s_bin os_sub (s_bin os_mulG (s_attr R.at_ R.cl R.nt (sv 0)) (sv 3)) (s_bin os_mulG (sv 2) (s_attr R.at_ R.cl R.nb (sv 0)))) (sa_cons (s_bin os_mulG (s_attr R.at_ R.cl R.nb (sv 0)) (sv 3)) sa_nil)))))
abbrev s_Rmul : Stmt := inClass (topR 23) 9
theorem sc_Rmul : FnScope ["self", "other", "top", "bottom"] ["self", "other"] (defScope s_Rmul) := ⟨rfl, rfl, rfl, by decide +kernel, rfl, by decide +kernel, by decide +kernel⟩
def m_Rmul (ft : List D → T D) : Rho → T Out := bSeq (tbR ft) (sRet (mkR (eBin opMulG aT (eVar 2)) (eBin opMulG aB (eVar 3))))
def f_Rmul (ft : List D → T D) : List D → T D := runB 4 (m_Rmul ft)
theorem g_Rmul (F : Fun K "__mul__" "Ratio.__mul__" s_Rmul a_f d_f) (R : RH P w K mg base ft C a_i a_t d_i d_t) : FnOk P w K mg base CX0 5 a_f d_f ["self", "other"] (spD K P w 2 (f_Rmul ft)) := by
  have nd := sc_Rmul.nd
  refine fn_ok (n := 4) (p := 2) (m := m_Rmul ft) (k := 4) F sc_Rmul rfl rfl rfl (fun cdv A outer s H E hr => ?_)
  exact b_cons (ss_asg (s_call R.GT (hr.mono (by decide)) R.mt R.kt R.BT (sa_cons (sv 1) sa_nil)) (g_tup rfl (gs_cons (g_name nd) (gs_cons (g_name nd) gs_nil))))
    (b_one (ss_ret (s_make (dvs := []) (dds := []) R.M R.GI (hr.mono (by decide)) R.mC R.at_ R.BI .nil (fun _ _ => .nil) (sa_cons (s_bin os_mulG (s_attr R.at_ R.cl R.nt (sv 0)) (sv 2)) (sa_cons (s_bin os_mulG (s_attr R.at_ R.cl R.nb (sv 0)) (sv 3)) sa_nil)))))
/-! -self -/
abbrev s_Rneg : Stmt := inClass (topR 23) 11
theorem sc_Rneg : FnScope ["self"] ["self"] (defScope s_Rneg) := ⟨rfl, rfl, rfl, by decide +kernel, rfl, by decide +kernel, by decide +kernel⟩
def m_Rneg : Rho → T Out := sRet (mkR (eUn uNeg aT) aB)
def f_Rneg : List D → T D := runB 1 m_Rneg
theorem g_Rneg (F : Fun K "__neg__" "Ratio.__neg__" s_Rneg a_f d_f) (R : RH P w K mg base ft C a_i a_t d_i d_t) : FnOk P w K mg base CX0 5 a_f d_f ["self"] (spD K P w 1 f_Rneg) :=
  fn_ok (n := 1) (p := 1) (m := m_Rneg) (k := 4) F sc_Rneg rfl rfl rfl (fun cdv A outer s H E hr =>
    b_one (ss_ret (s_make (dvs := []) (dds := []) R.M R.GI (hr.mono (by decide)) R.mC R.at_ R.BI .nil (fun _ _ => .nil) (sa_cons (s_neg (s_attr R.at_ R.cl R.nt (sv 0))) (sa_cons (s_attr R.at_ R.cl R.nb (sv 0)) sa_nil)))))
/-! over -/
abbrev s_Rover : Stmt := inClass (topR 23) 12
theorem sc_Rover : FnScope ["self", "other", "top", "bottom"] ["self", "other"] (defScope s_Rover) := ⟨rfl, rfl, rfl, by decide +kernel, rfl, by decide +kernel, by decide +kernel⟩
def m_Rover (ft : List D → T D) : Rho → T Out := bSeq (tbR ft) (bSeq (sIf (eTest (eBin opEq (eVar 2) (eC (.int 0)))) sFail bNil) (sRet (mkR (eBin opMulG aT (eVar 3)) (eBin opMulG aB (eVar 2)))))
def f_Rover (ft : List D → T D) : List D → T D := runB 4 (m_Rover ft)
theorem g_Rover (F : Fun K "over" "Ratio.over" s_Rover a_f d_f) (R : RH P w K mg base ft C a_i a_t d_i d_t) : FnOk P w K mg base CX0 5 a_f d_f ["self", "other"] (spD K P w 2 (f_Rover ft)) := by
  have nd := sc_Rover.nd
  refine fn_ok (n := 4) (p := 2) (m := m_Rover ft) (k := 4) F sc_Rover rfl rfl rfl (fun cdv A outer s H E hr => ?_)
  exact b_cons (ss_asg (s_call R.GT (hr.mono (by decide)) R.mt R.kt R.BT (sa_cons (sv 1) sa_nil)) (g_tup rfl (gs_cons (g_name nd) (gs_cons (g_name nd) gs_nil))))
    (b_cons (ss_if (st_cmp (os_eq hr.units) (sv 2) s_int (nomark _)) (b_one ss_fail) b_nil)
    (b_one (ss_ret (s_make (dvs := []) (dds := []) R.M R.GI (hr.mono (by decide)) R.mC R.at_ R.BI .nil (fun _ _ => .nil) (sa_cons (s_bin os_mulG (s_attr R.at_ R.cl R.nt (sv 0)) (sv 3)) (sa_cons (s_bin os_mulG (s_attr R.at_ R.cl R.nb (sv 0)) (sv 2)) sa_nil))))))
/-! order -/
def m_Rord (f : D → D → T D) (ft : List D → T D) : Rho → T Out := bSeq (tbR ft) (sRet (eBin f (eBin opMulG aT (eVar 3)) (eBin opMulG (eVar 2) aB)))
def f_Rbelow (ft : List D → T D) : List D → T D := runB 4 (m_Rord opLt ft)
def f_Ratmost (ft : List D → T D) : List D → T D := runB 4 (m_Rord opLe ft)
/-! its two texts -/
abbrev s_Rstr : Stmt := inClass (topR 23) 18
theorem sc_Rstr : FnScope ["self"] ["self"] (defScope s_Rstr) := ⟨rfl, rfl, rfl, by decide +kernel, rfl, by decide +kernel, by decide +kernel⟩
def m_Rstr : Rho → T Out := bSeq (sIf (eTest (eBin opEq aB (eC (.int 1)))) (sRet (eFmt aT)) bNil) (sRet (joinT [eFmt aT, eC (.str "/"), eFmt aB] Str.empty))
def f_Rstr : List D → T D := runB 1 m_Rstr
theorem g_Rstr (F : Fun K "__str__" "Ratio.__str__" s_Rstr a_f d_f) (R : RH P w K mg base ft C a_i a_t d_i d_t) : FnOk P w K mg base CX0 1 a_f d_f ["self"] (spD K P w 1 f_Rstr) :=
  fn_ok (n := 1) (p := 1) (m := m_Rstr) (k := 0) F sc_Rstr rfl rfl rfl (fun cdv A outer s H E hr =>
    b_cons (ss_if (st_cmp (os_eq hr.units) (s_attr R.at_ R.cl R.nb (sv 0)) s_int (nomark _)) (b_one (ss_ret (s_join1 (s_fmt (s_attr R.at_ R.cl R.nt (sv 0)))))) b_nil)
      (b_one (ss_ret (s_join (.cons (s_fmt (s_attr R.at_ R.cl R.nt (sv 0))) (.cons s_str (.cons (s_fmt (s_attr R.at_ R.cl R.nb (sv 0))) .nil)))))))
abbrev s_Rrepr : Stmt := inClass (topR 23) 19
theorem sc_Rrepr : FnScope ["self"] ["self"] (defScope s_Rrepr) := ⟨rfl, rfl, rfl, by decide +kernel, rfl, by decide +kernel, by decide +kernel⟩
def m_Rrepr : Rho → T Out := sRet (joinT [eC (.str "Ratio("), eFmt aT, eC (.str ", "), eFmt aB, eC (.str ")")] Str.empty)
def f_Rrepr : List D → T D := runB 1 m_Rrepr
theorem g_Rrepr (F : Fun K "__repr__" "Ratio.__repr__" s_Rrepr a_f d_f) (R : RH P w K mg base ft C a_i a_t d_i d_t) : FnOk P w K mg base CX0 1 a_f d_f ["self"] (spD K P w 1 f_Rrepr) :=
  fn_ok (n := 1) (p := 1) (m := m_Rrepr) (k := 0) F sc_Rrepr rfl rfl rfl (fun cdv A outer s H E hr =>
    b_one (ss_ret (s_join (.cons s_str (.cons (s_fmt (s_attr R.at_ R.cl R.nt (sv 0))) (.cons s_str (.cons (s_fmt (s_attr R.at_ R.cl R.nb (sv 0))) (.cons s_str .nil))))))))
end
end Pd

/-! What counts as a number; the two numbers of one. -/
namespace Pd
open PySem L2 PySem.Spec PyProof.Rows
/-- one promise from another: what F says wherever G says something -/
theorem spD_imp {K : PySem.W.Frag} {P : Program} {w : World} {n : Nat} {F G : List D → T D} (h : ∀ ds (R : D → Prop), (G ds).all R → (F ds).all R) : ∀ vs H Q E, spD K P w n G vs H Q E → spD K P w n F vs H Q E := fun vs H Q E q => by
  obtain ⟨π, N, ds, a, b, c, d⟩ := q
  exact ⟨π, N, ds, a, b, c, h _ _ d⟩
section
variable {P : Program} {w : World} {K : PySem.W.Frag} {mg : Str → Option Value} {base : Heap} {C a_f a_int a_num a_need a_p a_q g_p g_q : Addr} {d_f d_int d_num d_need d_p d_q : FuncData}
abbrev s_isInt : Stmt := topR 16
theorem sc_isInt : FnScope ["value"] ["value"] (defScope s_isInt) := ⟨rfl, rfl, rfl, by decide +kernel, rfl, by decide +kernel, by decide +kernel⟩
def m_isInt : Rho → T Out := sRet (eAnd (eUn (isDC ["Ratio"] .int) (eVar 0)) (eNot (eUn (isDC ["Ratio"] .bool) (eVar 0))))
def f_isInt : List D → T D := runB 1 m_isInt
theorem g_isInt (F : Fun K "is_integer" "is_integer" s_isInt a_f d_f) (kn : KnownC K ["Ratio"]) (mi : mg "isinstance" = none) (mn : mg "int" = none) (mb : mg "bool" = none) : FnOk P w K mg base CX0 1 a_f d_f ["value"] (spD K P w 1 f_isInt) :=
  fn_ok (n := 1) (p := 1) (m := m_isInt) (k := 0) F sc_isInt rfl rfl rfl (fun cdv A outer s H E hr =>
    b_one (ss_ret (s_and (s_isinstC ["Ratio"] (k := .int) kn mi mn (by decide +kernel) (sv 0)) (s_one (s_not (s_isinstC ["Ratio"] (k := .bool) kn mi mb (by decide +kernel) (sv 0)))))))
abbrev s_isNum : Stmt := topR 24
theorem sc_isNum : FnScope ["value"] ["value"] (defScope s_isNum) := ⟨rfl, rfl, rfl, by decide +kernel, rfl, by decide +kernel, by decide +kernel⟩
def m_isNum : Rho → T Out := sRet (eOr (eCall 1 f_isInt (aCons (eVar 0) aNil)) (eUn (isOC ["Ratio"] "Ratio") (eVar 0)))
def f_isNum : List D → T D := runB 1 m_isNum
theorem g_isNum (F : Fun K "is_number" "is_number" s_isNum a_f d_f) (kn : KnownC K ["Ratio"]) (at0 : ClsAt K "Ratio" C) (ct0 : ClsTy K C) (mi : mg "isinstance" = none) (mC : mg "Ratio" = some (.ref C)) (mg1 : mg "is_integer" = some (.ref a_int)) (k1 : PySem.W.keepIn K (.ref a_int) = true)
    (G1 : FnOk P w K mg base CX0 1 a_int d_int ["value"] (spD K P w 1 f_isInt)) (B1 : Binds K d_int ["value"] []) : FnOk P w K mg base CX0 2 a_f d_f ["value"] (spD K P w 1 f_isNum) :=
  fn_ok (n := 1) (p := 1) (m := m_isNum) (k := 1) F sc_isNum rfl rfl rfl (fun cdv A outer s H E hr =>
    b_one (ss_ret (s_or (s_call G1 (hr.mono (by decide)) mg1 k1 B1 (sa_cons (sv 0) sa_nil)) (s_one (s_isinstO ["Ratio"] kn at0 ct0 (fun c C' h1 h2 _ => by
      have e : c = "Ratio" := by simpa using h1
      subst e
      exact absurd h2 (by decide +kernel)) mi mC (sv 0))))))
abbrev s_need : Stmt := topR 25
theorem sc_need : FnScope ["number"] ["number"] (defScope s_need) := ⟨rfl, rfl, rfl, by decide +kernel, rfl, by decide +kernel, by decide +kernel⟩
def m_need : Rho → T Out := sIf (tNot' (eTest (eCall 1 f_isNum (aCons (eVar 0) aNil)))) sFail bNil
def f_need : List D → T D := runB 1 m_need
theorem g_need (F : Fun K "need_number" "need_number" s_need a_f d_f) (mg1 : mg "is_number" = some (.ref a_num)) (k1 : PySem.W.keepIn K (.ref a_num) = true)
    (G1 : FnOk P w K mg base CX0 2 a_num d_num ["value"] (spD K P w 1 f_isNum)) (B1 : Binds K d_num ["value"] []) : FnOk P w K mg base CX0 3 a_f d_f ["number"] (spD K P w 1 f_need) :=
  fn_ok (n := 1) (p := 1) (m := m_need) (k := 2) F sc_need rfl rfl rfl (fun cdv A outer s H E hr =>
    b_one (ss_if (st_not (st_val (s_call G1 (hr.mono (by decide)) mg1 k1 B1 (sa_cons (sv 0) sa_nil)))) (b_one ss_fail) b_nil))
abbrev s_tb : Stmt := topR 26
theorem sc_tb : FnScope ["number"] ["number"] (defScope s_tb) := ⟨rfl, rfl, rfl, by decide +kernel, rfl, by decide +kernel, by decide +kernel⟩
def m_tb : Rho → T Out := bSeq (sExpr (eCall 1 f_need (aCons (eVar 0) aNil))) (bSeq (sIf (eTest (eUn (isOC ["Ratio"] "Ratio") (eVar 0))) (sRet (eTup (aCons (eProp "Ratio" f_Rtop (eVar 0)) (aCons (eProp "Ratio" f_Rbottom (eVar 0)) aNil)))) bNil)
  (sRet (eTup (aCons (eVar 0) (aCons (eC (.int 1)) aNil)))))
def f_tb : List D → T D := runB 1 m_tb
theorem g_tb (F : Fun K "top_and_bottom" "top_and_bottom" s_tb a_f d_f) (kn : KnownC K ["Ratio"]) (at0 : ClsAt K "Ratio" C) (ct0 : ClsTy K C) (cl : Cls K C) (mi : mg "isinstance" = none) (mC : mg "Ratio" = some (.ref C)) (mg1 : mg "need_number" = some (.ref a_need)) (k1 : PySem.W.keepIn K (.ref a_need) = true)
    (G1 : FnOk P w K mg base CX0 3 a_need d_need ["number"] (spD K P w 1 f_need)) (B1 : Binds K d_need ["number"] [])
    (hp : PropOf K C "top" a_p g_p) (GP : FnOk P w K mg base CX0 1 g_p d_p ["self"] (spD K P w 1 f_Rtop)) (BP : Binds K d_p ["self"] [])
    (hq : PropOf K C "bottom" a_q g_q) (GQ : FnOk P w K mg base CX0 1 g_q d_q ["self"] (spD K P w 1 f_Rbottom)) (BQ : Binds K d_q ["self"] []) : FnOk P w K mg base CX0 4 a_f d_f ["number"] (spD K P w 1 f_tb) :=
  fn_ok (n := 1) (p := 1) (m := m_tb) (k := 3) F sc_tb rfl rfl rfl (fun cdv A outer s H E hr =>
    b_cons (ss_expr (s_call G1 (hr.mono (by decide)) mg1 k1 B1 (sa_cons (sv 0) sa_nil)))
    (b_cons (ss_if (st_val (s_isinstO ["Ratio"] kn at0 ct0 (fun c C' h1 h2 _ => by
      have e : c = "Ratio" := by simpa using h1
      subst e
      exact absurd h2 (by decide +kernel)) mi mC (sv 0)))
      (b_one (ss_ret (s_tup (sa_cons (s_prop at0 cl hp GP (hr.mono (by decide)) BP (sv 0)) (sa_cons (s_prop at0 cl hq GQ (hr.mono (by decide)) BQ (sv 0)) sa_nil))))) b_nil)
      (b_one (ss_ret (s_tup (sa_cons (sv 0) (sa_cons s_int sa_nil)))))))
end
/-! what they come to -/
def ratio (t b : Int) : D := .ins "Ratio" [("_top", .int t), ("_bottom", .int b)]
theorem sRR : (("Ratio" : Str) == "Ratio") = true := by decide +kernel
theorem sTT : (("_top" : Str) == "_top") = true := by decide +kernel
theorem sBB : (("_bottom" : Str) == "_bottom") = true := by decide +kernel
theorem sBT : (("_bottom" : Str) == "_top") = false := by decide +kernel
theorem sTB : (("_top" : Str) == "_bottom") = false := by decide +kernel
theorem isC_ratio (t b : Int) : isC "Ratio" (ratio t b) = .ret () := by unfold ratio isC; simp only [sRR, cond]
theorem top_ratio (t b : Int) : attrD "Ratio" "_top" (ratio t b) = .ret (.int t) := by unfold ratio attrD; simp only [sRR, cond, fieldD, sTT, optT]
theorem bottom_ratio (t b : Int) : attrD "Ratio" "_bottom" (ratio t b) = .ret (.int b) := by unfold ratio attrD; simp only [sRR, cond, fieldD, sBB, sBT, optT]
theorem isO_ratio (t b : Int) : isOC ["Ratio"] "Ratio" (ratio t b) = .ret (.bl true) := by unfold ratio isOC; simp only [sRR, cond]
theorem isDC_ratio (k : Ty5) (t b : Int) : isDC ["Ratio"] k (ratio t b) = .ret (.bl false) := by unfold ratio isDC; simp only [List.contains, List.elem, sRR, cond]
theorem isDC_int (k : Ty5) (i : Int) : isDC ["Ratio"] k (.int i) = .ret (.bl (Ty5.sub .int k)) := rfl
theorem isO_int (i : Int) : isOC ["Ratio"] "Ratio" (.int i) = .ret (.bl false) := rfl
theorem small2 (x y : D) : small [x, y] = true := by unfold small; simp
theorem isInt_int (i : Int) : f_isInt [.int i] = .ret (.bl true) := by
  simp [f_isInt, runB, m_isInt, sRet, eAnd, eUn, eNot, eVar, T.bind, isDC_int, asB, Ty5.sub]
theorem isInt_ratio (t b : Int) : f_isInt [ratio t b] = .ret (.bl false) := by
  simp [f_isInt, runB, m_isInt, sRet, eAnd, eUn, eNot, eVar, T.bind, isDC_ratio, asB, Ty5.sub]
theorem isNum_int (i : Int) : f_isNum [.int i] = .ret (.bl true) := by
  simp [f_isNum, runB, m_isNum, sRet, eOr, eCall, aCons, aNil, eVar, T.bind, isInt_int, asB]
theorem isNum_ratio (t b : Int) : f_isNum [ratio t b] = .ret (.bl true) := by
  simp [f_isNum, runB, m_isNum, sRet, eOr, eCall, aCons, aNil, eVar, eUn, T.bind, isInt_ratio, isO_ratio, asB]
theorem need_of {d : D} (h : f_isNum [d] = .ret (.bl true)) : f_need [d] = .ret .non := by
  simp [f_need, runB, m_need, sIf, tNot', eTest, eCall, aCons, aNil, eVar, T.bind, h, asB, bNil]
theorem tb_int (i : Int) : f_tb [.int i] = .ret (.tup [.int i, .int 1]) := by
  simp [f_tb, runB, m_tb, bSeq, sExpr, sIf, sRet, eTest, eUn, eCall, aCons, aNil, eVar, eC, eTup, T.bind, need_of (isNum_int i), isO_int, asB, bNil, small2]
theorem rtop_ratio (t b : Int) : f_Rtop [ratio t b] = .ret (.int t) := by
  simp [f_Rtop, runB, sRet, aT, eUn, eVar, T.bind, top_ratio]
theorem rbottom_ratio (t b : Int) : f_Rbottom [ratio t b] = .ret (.int b) := by
  simp [f_Rbottom, runB, sRet, aB, eUn, eVar, T.bind, bottom_ratio]
theorem tb_ratio (t b : Int) : f_tb [ratio t b] = .ret (.tup [.int t, .int b]) := by
  simp [f_tb, runB, m_tb, bSeq, sExpr, sIf, sRet, eTest, eUn, eCall, aCons, aNil, eVar, eC, eTup, eProp, isC_ratio, rtop_ratio, rbottom_ratio, T.bind, need_of (isNum_ratio t b), isO_ratio, asB, bNil, small2]
end Pd

/-! The operators with a Ratio on the right, the size; what Ratio's methods come to. -/
namespace Pd
open PySem L2 PySem.Spec PyProof.Rows
section
variable {P : Program} {w : World} {K : PySem.W.Frag} {mg : Str → Option Value} {base : Heap} {ft : List D → T D} {C a_i a_t a_f a_o a_n : Addr} {d_i d_t d_f d_o d_n : FuncData}
/-! other op self, by self op other -/
def m_Rback (F : List D → T D) : Rho → T Out := sRet (eBin (opOwn "Ratio" F) (eVar 0) (eVar 1))
abbrev s_Rradd : Stmt := inClass (topR 23) 6
theorem sc_Rradd : FnScope ["self", "other"] ["self", "other"] (defScope s_Rradd) := ⟨rfl, rfl, rfl, by decide +kernel, rfl, by decide +kernel, by decide +kernel⟩
def f_Rback (F : List D → T D) : List D → T D := runB 2 (m_Rback F)
theorem g_Rradd {G : List D → T D} (F : Fun K "__radd__" "Ratio.__radd__" s_Rradd a_f d_f) (at_ : ClsAt K "Ratio" C) (O : OwnOp K C .Add a_o) (GO : FnOk P w K mg base CX0 5 a_o d_o ["self", "other"] (spD K P w 2 G)) (BO : Binds K d_o ["self", "other"] []) : FnOk P w K mg base CX0 6 a_f d_f ["self", "other"] (spD K P w 2 (f_Rback G)) :=
  fn_ok (n := 2) (p := 2) (m := m_Rback G) (k := 5) F sc_Rradd rfl rfl rfl (fun cdv A outer s H E hr => b_one (ss_ret (s_bin (os_own at_ O GO hr BO) (sv 0) (sv 1))))
abbrev s_Rrmul : Stmt := inClass (topR 23) 10
theorem sc_Rrmul : FnScope ["self", "other"] ["self", "other"] (defScope s_Rrmul) := ⟨rfl, rfl, rfl, by decide +kernel, rfl, by decide +kernel, by decide +kernel⟩
theorem g_Rrmul {G : List D → T D} (F : Fun K "__rmul__" "Ratio.__rmul__" s_Rrmul a_f d_f) (at_ : ClsAt K "Ratio" C) (O : OwnOp K C .Mult a_o) (GO : FnOk P w K mg base CX0 5 a_o d_o ["self", "other"] (spD K P w 2 G)) (BO : Binds K d_o ["self", "other"] []) : FnOk P w K mg base CX0 6 a_f d_f ["self", "other"] (spD K P w 2 (f_Rback G)) :=
  fn_ok (n := 2) (p := 2) (m := m_Rback G) (k := 5) F sc_Rrmul rfl rfl rfl (fun cdv A outer s H E hr => b_one (ss_ret (s_bin (os_own at_ O GO hr BO) (sv 0) (sv 1))))
abbrev s_Rrsub : Stmt := inClass (topR 23) 8
theorem sc_Rrsub : FnScope ["self", "other"] ["self", "other"] (defScope s_Rrsub) := ⟨rfl, rfl, rfl, by decide +kernel, rfl, by decide +kernel, by decide +kernel⟩
def m_Rrsub (N G : List D → T D) : Rho → T Out := sRet (eBin (opOwn "Ratio" G) (eUn (uNegC "Ratio" N) (eVar 0)) (eVar 1))
def f_Rrsub (N G : List D → T D) : List D → T D := runB 2 (m_Rrsub N G)
theorem g_Rrsub {N G : List D → T D} (F : Fun K "__rsub__" "Ratio.__rsub__" s_Rrsub a_f d_f) (at_ : ClsAt K "Ratio" C) (O : OwnOp K C .Add a_o) (GO : FnOk P w K mg base CX0 5 a_o d_o ["self", "other"] (spD K P w 2 G)) (BO : Binds K d_o ["self", "other"] [])
    (hs : PySem.W.findIn K (.ref C) "__neg__" = some (some (.ref a_n))) (hf : PySem.W.isFn K (.ref a_n) = true) (GN : FnOk P w K mg base CX0 5 a_n d_n ["self"] (spD K P w 1 N)) (BN : Binds K d_n ["self"] []) : FnOk P w K mg base CX0 6 a_f d_f ["self", "other"] (spD K P w 2 (f_Rrsub N G)) :=
  fn_ok (n := 2) (p := 2) (m := m_Rrsub N G) (k := 5) F sc_Rrsub rfl rfl rfl (fun cdv A outer s H E hr => b_one (ss_ret (s_bin (os_own at_ O GO hr BO) (s_negC at_ hs hf GN hr BN (sv 0)) (sv 1))))
/-! size -/
def m_Rsize : Rho → T Out := sRet (mkR (eCa bAbs (aCons aT aNil)) aB)
def f_Rsize : List D → T D := runB 1 m_Rsize
end
/-! ## what they come to -/
theorem ratioBy_abs (t b : Int) : (ratioBy t b).natAbs = Nat.gcd t.natAbs b.natAbs := by
  unfold ratioBy; split <;> omega
theorem ratioBy_ne {t b : Int} (hb : b ≠ 0) : ratioBy t b ≠ 0 := fun z => by
  have h := ratioBy_abs t b
  rw [z] at h
  exact hb (Int.natAbs_eq_zero.mp (Nat.eq_zero_of_gcd_eq_zero_right h.symm))
theorem noPylong {x y : Int} (h : y.natAbs.log2 < 9000) : Builtin.divisionGoesByPylong x y = false := by
  unfold Builtin.divisionGoesByPylong
  have : ¬ ((if (y == 0) = true then 0 else y.natAbs.log2 / 30 + 1) > 300) := by
    split <;> omega
  show (decide _ && _) = false
  rw [decide_eq_false this]
  rfl
theorem ratioBy_log {t b : Int} (hb : b ≠ 0) (h : b.natAbs.log2 < 9000) : (ratioBy t b).natAbs.log2 < 9000 := by
  have b0 : b.natAbs ≠ 0 := fun z => hb (Int.natAbs_eq_zero.mp z)
  have r0 : (ratioBy t b).natAbs ≠ 0 := fun z => ratioBy_ne (t := t) hb (Int.natAbs_eq_zero.mp z)
  refine (Nat.log2_lt r0).mpr (Nat.lt_of_le_of_lt ?_ ((Nat.log2_lt b0).mp h))
  rw [ratioBy_abs]
  exact Nat.le_of_dvd (Nat.pos_of_ne_zero b0) (Nat.gcd_dvd_right _ _)
/-- t / b in lowest terms, as a Ratio -/
def lowR (t b : Int) : D := ratio (t.fdiv (ratioBy t b)) (b.fdiv (ratioBy t b))
theorem init_val {t b : Int} (hb : b ≠ 0) (h : b.natAbs.log2 < 9000) : f_Ratio_init [.int t, .int b] = .ret [("_top", .int (t.fdiv (ratioBy t b))), ("_bottom", .int (b.fdiv (ratioBy t b)))] := by
  have l := ratioBy_log (t := t) hb h
  simp [f_Ratio_init, hb, noPylong l]
theorem mk_val {ρ : Rho} {x y : Rho → T D} {t b : Int} (hx : x ρ = .ret (.int t)) (hy : y ρ = .ret (.int b)) (hb : b ≠ 0) (h : b.natAbs.log2 < 9000) : mkR x y ρ = .ret (lowR t b) := by
  simp [mkR, eMake, aCons, aNil, T.bind, hx, hy, init_val hb h, lowR, ratio]
theorem bits_of {i : Int} (h : i.natAbs.log2 < 9000) : bitsOk i = true := by
  unfold bitsOk Builtin.Int.intBits
  apply decide_eq_true
  have : (9001 : Nat) ≤ 2 ^ 20 := by decide
  split <;> omega
theorem mulG_val {i j : Int} (hi : i.natAbs.log2 < 9000) (hj : j.natAbs.log2 < 9000) : opMulG (.int i) (.int j) = .ret (.int (i * j)) := by
  unfold opMulG; simp [bits_of hi, bits_of hj]
theorem eqI (i j : Int) : opEq (.int i) (.int j) = .ret (.bl (i == j)) := by
  have q : ∀ k : Int, SeqAt.shaped (PyData.int k) = true := fun _ => rfl
  simp only [opEq, eqD, D.py, q, Bool.and_self, cond, PyData.eqv]
section
variable {a b c e : Int} {ft : List D → T D} {d : D}
/-- all numbers of fewer than 9000 bits -/
structure Sm (a b c e : Int) : Prop where
  a : a.natAbs.log2 < 9000
  b : b.natAbs.log2 < 9000
  c : c.natAbs.log2 < 9000
  e : e.natAbs.log2 < 9000
theorem add_val (ht : ft [d] = .ret (.tup [.int c, .int e])) (h : Sm a b c e) (h0 : b * e ≠ 0) (hbe : (b * e).natAbs.log2 < 9000) : f_Radd' ft [ratio a b, d] = .ret (lowR (a * e + c * b) (b * e)) := by
  have z := mk_val (ρ := [.val (ratio a b), .val d, .val (.int c), .val (.int e)]) (x := eBin opAdd (eBin opMulG aT (eVar 3)) (eBin opMulG (eVar 2) aB)) (y := eBin opMulG aB (eVar 3)) (t := a * e + c * b) (b := b * e)
    (by simp [eBin, aT, aB, eUn, eVar, T.bind, top_ratio, bottom_ratio, mulG_val h.a h.e, mulG_val h.c h.b, opAdd]) (by simp [eBin, aB, eUn, eVar, T.bind, bottom_ratio, mulG_val h.b h.e]) h0 hbe
  simp [f_Radd', runB, m_Rsum, tbR, bSeq, sAsg, gTp, gsCons, gsNil, gNm, eCall, aCons, aNil, eVar, T.bind, ht, sRet, z, List.replicate]
theorem sub_val (ht : ft [d] = .ret (.tup [.int c, .int e])) (h : Sm a b c e) (h0 : b * e ≠ 0) (hbe : (b * e).natAbs.log2 < 9000) : f_Rsub ft [ratio a b, d] = .ret (lowR (a * e - c * b) (b * e)) := by
  have z := mk_val (ρ := [.val (ratio a b), .val d, .val (.int c), .val (.int e)]) (x := eBin opSub (eBin opMulG aT (eVar 3)) (eBin opMulG (eVar 2) aB)) (y := eBin opMulG aB (eVar 3)) (t := a * e - c * b) (b := b * e)
    (by simp [eBin, aT, aB, eUn, eVar, T.bind, top_ratio, bottom_ratio, mulG_val h.a h.e, mulG_val h.c h.b, opSub]) (by simp [eBin, aB, eUn, eVar, T.bind, bottom_ratio, mulG_val h.b h.e]) h0 hbe
  simp [f_Rsub, runB, m_Rsum, tbR, bSeq, sAsg, gTp, gsCons, gsNil, gNm, eCall, aCons, aNil, eVar, T.bind, ht, sRet, z, List.replicate]
theorem mul_val (ht : ft [d] = .ret (.tup [.int c, .int e])) (h : Sm a b c e) (h0 : b * e ≠ 0) (hbe : (b * e).natAbs.log2 < 9000) : f_Rmul ft [ratio a b, d] = .ret (lowR (a * c) (b * e)) := by
  have z := mk_val (ρ := [.val (ratio a b), .val d, .val (.int c), .val (.int e)]) (x := eBin opMulG aT (eVar 2)) (y := eBin opMulG aB (eVar 3)) (t := a * c) (b := b * e)
    (by simp [eBin, aT, eUn, eVar, T.bind, top_ratio, mulG_val h.a h.c]) (by simp [eBin, aB, eUn, eVar, T.bind, bottom_ratio, mulG_val h.b h.e]) h0 hbe
  simp [f_Rmul, runB, m_Rmul, tbR, bSeq, sAsg, gTp, gsCons, gsNil, gNm, eCall, aCons, aNil, eVar, T.bind, ht, sRet, z, List.replicate]
theorem over_val (ht : ft [d] = .ret (.tup [.int c, .int e])) (h : Sm a b c e) (h0 : b * c ≠ 0) (hbc : (b * c).natAbs.log2 < 9000) : f_Rover ft [ratio a b, d] = .ret (lowR (a * e) (b * c)) := by
  have c0 : ¬ c = 0 := fun q => h0 (by rw [q, Int.mul_zero])
  have z := mk_val (ρ := [.val (ratio a b), .val d, .val (.int c), .val (.int e)]) (x := eBin opMulG aT (eVar 3)) (y := eBin opMulG aB (eVar 2)) (t := a * e) (b := b * c)
    (by simp [eBin, aT, eUn, eVar, T.bind, top_ratio, mulG_val h.a h.e]) (by simp [eBin, aB, eUn, eVar, T.bind, bottom_ratio, mulG_val h.b h.c]) h0 hbc
  have q : eTest (eBin opEq (eVar 2) (eC (.int 0))) [.val (ratio a b), .val d, .val (.int c), .val (.int e)] = .ret false := by
    simp [eTest, eBin, eVar, eC, T.bind, eqI, asB, c0]
  simp [f_Rover, runB, m_Rover, tbR, bSeq, sAsg, gTp, gsCons, gsNil, gNm, eCall, aCons, aNil, eVar, T.bind, ht, sRet, sIf, bNil, q, z, List.replicate]
theorem neg_val (hb : b ≠ 0) (h : b.natAbs.log2 < 9000) : f_Rneg [ratio a b] = .ret (lowR (-a) b) := by
  have z := mk_val (ρ := [.val (ratio a b)]) (x := eUn uNeg aT) (y := aB) (t := -a) (b := b) (by simp [aT, eUn, eVar, T.bind, top_ratio, uNeg]) (by simp [aB, eUn, eVar, T.bind, bottom_ratio]) hb h
  simp [f_Rneg, runB, m_Rneg, T.bind, sRet, z, List.replicate]
theorem size_val (hb : b ≠ 0) (h : b.natAbs.log2 < 9000) : f_Rsize [ratio a b] = .ret (lowR (if a < 0 then -a else a) b) := by
  have z := mk_val (ρ := [.val (ratio a b)]) (x := eCa bAbs (aCons aT aNil)) (y := aB) (t := if a < 0 then -a else a) (b := b) (by simp [aT, eCa, bAbs, aCons, aNil, eUn, eVar, T.bind, top_ratio]) (by simp [aB, eUn, eVar, T.bind, bottom_ratio]) hb h
  simp [f_Rsize, runB, m_Rsize, T.bind, sRet, z, List.replicate]
theorem below_val (ht : ft [d] = .ret (.tup [.int c, .int e])) (h : Sm a b c e) : f_Rbelow ft [ratio a b, d] = .ret (.bl (decide (a * e < c * b))) := by
  simp [f_Rbelow, runB, m_Rord, tbR, bSeq, sAsg, gTp, gsCons, gsNil, gNm, eCall, aCons, aNil, eVar, T.bind, ht, sRet, eBin, aT, aB, eUn, top_ratio, bottom_ratio, mulG_val h.a h.e, mulG_val h.c h.b, opLt, opI, List.replicate]
theorem atmost_val (ht : ft [d] = .ret (.tup [.int c, .int e])) (h : Sm a b c e) : f_Ratmost ft [ratio a b, d] = .ret (.bl (decide (a * e ≤ c * b))) := by
  simp [f_Ratmost, runB, m_Rord, tbR, bSeq, sAsg, gTp, gsCons, gsNil, gNm, eCall, aCons, aNil, eVar, T.bind, ht, sRet, eBin, aT, aB, eUn, top_ratio, bottom_ratio, mulG_val h.a h.e, mulG_val h.c h.b, opLe, opI, List.replicate]
theorem whole_val : f_Rwhole [ratio a b] = .ret (.bl (b == 1)) := by
  simp [f_Rwhole, runB, m_Rwhole, sRet, eBin, aB, eUn, eVar, eC, T.bind, bottom_ratio, eqI, List.replicate]
theorem sign_val : f_Rsign [ratio a b] = .ret (.int (if a < 0 then -1 else if a > 0 then 1 else 0)) := by
  have q1 : eTest (eBin opLt aT (eC (.int 0))) [.val (ratio a b)] = .ret (decide (a < 0)) := by simp [eTest, eBin, aT, eUn, eVar, eC, T.bind, top_ratio, opLt, opI, asB]
  have q2 : eTest (eBin opGt aT (eC (.int 0))) [.val (ratio a b)] = .ret (decide (a > 0)) := by simp [eTest, eBin, aT, eUn, eVar, eC, T.bind, top_ratio, opGt, opI, asB]
  by_cases c1 : a < 0
  · simp [f_Rsign, runB, m_Rsign, bSeq, sIf, sRet, eUn, uNeg, eC, T.bind, q1, c1, List.replicate]
  · by_cases c2 : a > 0
    · simp [f_Rsign, runB, m_Rsign, bSeq, sIf, sRet, eUn, uNeg, eC, T.bind, q1, q2, c1, c2, bNil, List.replicate]
    · simp [f_Rsign, runB, m_Rsign, bSeq, sIf, sRet, eUn, uNeg, eC, T.bind, q1, q2, c1, c2, bNil, List.replicate]
end
end Pd


namespace Pd
open PySem L2 PySem.Spec PyProof.Rows
theorem neI (i j : Int) : opNe (.int i) (.int j) = .ret (.bl (!(i == j))) := by
  have q : ∀ k : Int, SeqAt.shaped (PyData.int k) = true := fun _ => rfl
  simp only [opNe, eqD, D.py, q, Bool.and_self, cond, PyData.eqv]
theorem fdivG_val {i j : Int} (hj : j ≠ 0) (h : j.natAbs.log2 < 9000) : opFDivG (.int i) (.int j) = .ret (.int (i.fdiv j)) := by
  unfold opFDivG
  simp [hj, noPylong h]
theorem log2_le {x y n : Nat} (h : x ≤ y) (hy : y.log2 < n) (hn : 0 < n) : x.log2 < n := by
  by_cases hx : x = 0
  · subst hx; simpa using hn
  · exact (Nat.log2_lt hx).mpr (Nat.lt_of_le_of_lt h ((Nat.log2_lt (by omega)).mp hy))
theorem abs_val (i : Int) : bAbs [.int i] = .ret (.int (i.natAbs : Nat)) := by
  unfold bAbs
  have e : (if i < 0 then -i else i) = (i.natAbs : Int) := by split <;> omega
  show T.ret (D.int (if i < 0 then -i else i)) = _
  rw [e]
end Pd


/-! A Ratio is a rational number. -/
namespace Pd
open PySem L2 PySem.Spec PyProof.Rows
def qR (q : Rat) : D := ratio q.num q.den
theorem ratioBy_pos {t b : Int} (h : 0 < b) : ratioBy t b = (Int.gcd b t : Int) := by
  unfold ratioBy
  rw [if_neg (by omega), Nat.gcd_comm]
  rfl
theorem ratioBy_neg {t b : Int} (h : b < 0) : ratioBy t b = -(Int.gcd b t : Int) := by
  unfold ratioBy
  rw [if_pos h, Nat.gcd_comm]
  rfl
theorem low_num {t b : Int} (hb : b ≠ 0) : t.fdiv (ratioBy t b) = (Rat.divInt t b).num := by
  rw [Rat.num_divInt]
  rcases Int.lt_or_gt_of_ne hb with h | h
  · rw [ratioBy_neg h, Int.sign_eq_neg_one_of_neg h]
    have e : t.fdiv (-(Int.gcd b t : Int)) = (-t).fdiv (Int.gcd b t : Int) := by
      have := Int.neg_fdiv_neg (-t) (Int.gcd b t : Int)
      rw [Int.neg_neg] at this
      exact this
    rw [e, Int.fdiv_eq_ediv_of_nonneg _ (by omega)]
    simp
  · rw [ratioBy_pos h, Int.sign_eq_one_of_pos h, Int.fdiv_eq_ediv_of_nonneg _ (by omega), Int.one_mul]
theorem low_den {t b : Int} (hb : b ≠ 0) : b.fdiv (ratioBy t b) = ((Rat.divInt t b).den : Int) := by
  rw [Rat.den_divInt, if_neg hb]
  rcases Int.lt_or_gt_of_ne hb with h | h
  · rw [ratioBy_neg h]
    have e : b.fdiv (-(Int.gcd b t : Int)) = (-b).fdiv (Int.gcd b t : Int) := by
      have := Int.neg_fdiv_neg (-b) (Int.gcd b t : Int)
      rw [Int.neg_neg] at this
      exact this
    rw [e, Int.fdiv_eq_ediv_of_nonneg _ (by omega)]
    have z : -b = (b.natAbs : Int) := by omega
    rw [z]
    simp
  · rw [ratioBy_pos h, Int.fdiv_eq_ediv_of_nonneg _ (by omega)]
    have z : b = (b.natAbs : Int) := by omega
    rw [z]
    simp
theorem lowR_rat {t b : Int} (hb : b ≠ 0) : lowR t b = qR (Rat.divInt t b) := by
  unfold lowR qR
  rw [low_num hb, low_den hb]
/-- the law's pair -/
def qP (q : Rat) : D := .tup [.int q.num, .int q.den]
/-- both numbers below 2 ** n -/
structure Sz (n : Nat) (q : Rat) : Prop where
  num : q.num.natAbs < 2 ^ n
  den : q.den < 2 ^ n
theorem Sz.mono {m n : Nat} {q : Rat} (h : Sz m q) (l : m ≤ n) : Sz n q :=
  ⟨Nat.lt_of_lt_of_le h.num (Nat.pow_le_pow_right (by decide) l), Nat.lt_of_lt_of_le h.den (Nat.pow_le_pow_right (by decide) l)⟩
theorem log_of {x n k : Nat} (h : x < 2 ^ n) (l : n ≤ k) (hk : 0 < k) : x.log2 < k := by
  by_cases z : x = 0
  · subst z; simpa using hk
  · exact (Nat.log2_lt z).mpr (Nat.lt_of_lt_of_le h (Nat.pow_le_pow_right (by decide) l))
theorem sz_divInt {n : Nat} {t b : Int} (hb : b ≠ 0) (ht : t.natAbs < 2 ^ n) (h : b.natAbs < 2 ^ n) : Sz n (Rat.divInt t b) := by
  constructor
  · rw [Rat.num_divInt]
    refine Nat.lt_of_le_of_lt (Int.natAbs_ediv_le_natAbs _ _) ?_
    rw [Int.natAbs_mul]
    rcases Int.lt_or_gt_of_ne hb with h | h
    · rw [Int.sign_eq_neg_one_of_neg h]; simpa using ht
    · rw [Int.sign_eq_one_of_pos h]; simpa using ht
  · rw [Rat.den_divInt, if_neg hb]
    exact Nat.lt_of_le_of_lt (Nat.div_le_self _ _) h
theorem Sz.mulP {m n : Nat} {x y : Nat} (hx : x < 2 ^ m) (hy : y < 2 ^ n) : x * y < 2 ^ (m + n) := by
  rw [Nat.pow_add]
  exact Nat.mul_lt_mul'' hx hy
/-- a number of either kind: its top and bottom as top_and_bottom tells them -/
inductive Num : D → Rat → Prop where
  | q (p : Rat) : Num (qR p) p
  | i (i : Int) : Num (.int i) (i : Rat)
theorem Num.tb {d : D} {q : Rat} (h : Num d q) : f_tb [d] = .ret (.tup [.int q.num, .int q.den]) := by
  cases h with
  | q p => exact tb_ratio _ _
  | i i => exact tb_int i
section
variable {p q : Rat} {d : D} {m n : Nat}
theorem den_ne : (q.den : Int) ≠ 0 := by have := q.den_nz; omega
theorem den2_ne : (p.den : Int) * (q.den : Int) ≠ 0 := Int.mul_ne_zero den_ne den_ne
theorem sm_of (hp : Sz m p) (hq : Sz n q) (l : m ≤ 9000 ∧ n ≤ 9000) : Sm p.num p.den q.num q.den :=
  ⟨log_of hp.num l.1 (by decide), by simpa using log_of hp.den l.1 (by decide), log_of hq.num l.2 (by decide), by simpa using log_of hq.den l.2 (by decide)⟩
theorem den2_log (hp : Sz m p) (hq : Sz n q) (l : m + n ≤ 9000) : ((p.den : Int) * (q.den : Int)).natAbs.log2 < 9000 := by
  rw [Int.natAbs_mul]
  simpa using log_of (Sz.mulP hp.den hq.den) l (by decide)
theorem add_rat (hd : Num d q) (hp : Sz m p) (hq : Sz n q) (l : m + n ≤ 9000) : f_Radd' f_tb [qR p, d] = .ret (qR (p + q)) := by
  have e := add_val hd.tb (sm_of hp hq (by omega)) den2_ne (den2_log hp hq l)
  show f_Radd' f_tb [ratio p.num p.den, d] = _
  rw [e, lowR_rat den2_ne, ← Rat.divInt_add_divInt _ _ den_ne den_ne, Rat.num_divInt_den, Rat.num_divInt_den]
theorem sub_rat (hd : Num d q) (hp : Sz m p) (hq : Sz n q) (l : m + n ≤ 9000) : f_Rsub f_tb [qR p, d] = .ret (qR (p - q)) := by
  have e := sub_val hd.tb (sm_of hp hq (by omega)) den2_ne (den2_log hp hq l)
  show f_Rsub f_tb [ratio p.num p.den, d] = _
  rw [e, lowR_rat den2_ne, ← Rat.divInt_sub_divInt _ _ den_ne den_ne, Rat.num_divInt_den, Rat.num_divInt_den]
theorem mul_rat (hd : Num d q) (hp : Sz m p) (hq : Sz n q) (l : m + n ≤ 9000) : f_Rmul f_tb [qR p, d] = .ret (qR (p * q)) := by
  have e := mul_val hd.tb (sm_of hp hq (by omega)) den2_ne (den2_log hp hq l)
  show f_Rmul f_tb [ratio p.num p.den, d] = _
  rw [e, lowR_rat den2_ne, ← Rat.divInt_mul_divInt, Rat.num_divInt_den, Rat.num_divInt_den]
theorem neg_rat (hp : Sz m p) (l : m ≤ 9000) : f_Rneg [qR p] = .ret (qR (-p)) := by
  have e := neg_val (a := p.num) (den_ne (q := p)) (by simpa using log_of hp.den l (by decide))
  show f_Rneg [ratio p.num p.den] = _
  rw [e, lowR_rat den_ne, ← Rat.neg_divInt, Rat.num_divInt_den]
end
end Pd


namespace Pd
open PySem L2 PySem.Spec PyProof.Rows
theorem at_0 (x y : D) : ixD (.tup [x, y]) (.int 0) = .ret x := rfl
theorem at_1 (x y : D) : ixD (.tup [x, y]) (.int 1) = .ret y := rfl
theorem den_sz (hp : Sz m p) (hq : Sz n q) : ((p.den : Int) * (q.den : Int)).natAbs < 2 ^ (m + n) := by
  rw [Int.natAbs_mul]
  simpa using Sz.mulP hp.den hq.den
theorem sz_mul (hp : Sz m p) (hq : Sz n q) : Sz (m + n) (p * q) := by
  rw [← Rat.num_divInt_den p, ← Rat.num_divInt_den q, Rat.divInt_mul_divInt]
  refine sz_divInt den2_ne ?_ (den_sz hp hq)
  rw [Int.natAbs_mul]
  exact Sz.mulP hp.num hq.num
end Pd

/-! Ratio's ==. -/
namespace Pd
open PySem L2 PySem.Spec PyProof.Rows
section
variable {P : Program} {w : World} {K : PySem.W.Frag} {mg : Str → Option Value} {base : Heap} {ft : List D → T D} {C a_i a_t a_f : Addr} {d_i d_t d_f : FuncData}
abbrev s_Req : Stmt := inClass (topR 23) 17
theorem sc_Req : FnScope ["self", "other"] ["self", "other"] (defScope s_Req) := ⟨rfl, rfl, rfl, by decide +kernel, rfl, by decide +kernel, by decide +kernel⟩
def m_Req : Rho → T Out := sRet (eAnd (eUn (isOC ["Ratio"] "Ratio") (eVar 1)) (eAnd (eBin opEq aT (eUn (attrD "Ratio" "_top") (eVar 1))) (eBin opEq aB (eUn (attrD "Ratio" "_bottom") (eVar 1)))))
def f_Req : List D → T D := runB 2 m_Req
theorem g_Req (F : Fun K "__eq__" "Ratio.__eq__" s_Req a_f d_f) (R : RH P w K mg base ft C a_i a_t d_i d_t) (kn : KnownC K ["Ratio"]) (ct0 : ClsTy K C) (mi : mg "isinstance" = none) : FnOk P w K mg base CX0 1 a_f d_f ["self", "other"] (spD K P w 2 f_Req) :=
  fn_ok (n := 2) (p := 2) (m := m_Req) (k := 0) F sc_Req rfl rfl rfl (fun cdv A outer s H E hr =>
    b_one (ss_ret (s_and (s_isinstO ["Ratio"] kn R.at_ ct0 (fun c C' h1 h2 _ => by
      have e : c = "Ratio" := by simpa using h1
      subst e
      exact absurd h2 (by decide +kernel)) mi R.mC (sv 1))
      (s_and (s_cmp (os_eq hr.units) (s_attr R.at_ R.cl R.nt (sv 0)) (s_attr R.at_ R.cl R.nt (sv 1)) (nomark _)) (s_one (s_cmp (os_eq hr.units) (s_attr R.at_ R.cl R.nb (sv 0)) (s_attr R.at_ R.cl R.nb (sv 1)) (nomark _)))))))
end
theorem eq_int (p : Rat) (i : Int) : f_Req [qR p, .int i] = .ret (.bl false) := by
  simp [f_Req, runB, m_Req, sRet, eAnd, eUn, eVar, T.bind, isO_int, asB, List.replicate]
theorem eq_rat (p q : Rat) : f_Req [qR p, qR q] = .ret (.bl (decide (p = q))) := by
  have e1 : eUn (isOC ["Ratio"] "Ratio") (eVar 1) [.val (qR p), .val (qR q)] = .ret (.bl true) := by simp [eUn, eVar, T.bind, qR, isO_ratio]
  have e2 : eBin opEq aT (eUn (attrD "Ratio" "_top") (eVar 1)) [.val (qR p), .val (qR q)] = .ret (.bl (p.num == q.num)) := by simp only [eBin, aT, eUn, eVar, T.bind, qR, top_ratio, List.getElem?_cons_succ, List.getElem?_cons_zero, eqI]
  have e3 : eBin opEq aB (eUn (attrD "Ratio" "_bottom") (eVar 1)) [.val (qR p), .val (qR q)] = .ret (.bl ((p.den : Int) == (q.den : Int))) := by simp only [eBin, aB, eUn, eVar, T.bind, qR, bottom_ratio, List.getElem?_cons_succ, List.getElem?_cons_zero, eqI]
  by_cases c1 : p.num = q.num
  · by_cases c2 : p.den = q.den
    · have e : p = q := Rat.ext c1 c2
      subst e
      simp [f_Req, runB, m_Req, sRet, eAnd, T.bind, e1, e2, e3, asB, List.replicate]
    · have e : ¬ p = q := fun z => c2 (by rw [z])
      have c3 : ((p.den : Int) == (q.den : Int)) = false := beq_false_of_ne fun z => c2 (Int.ofNat.inj z)
      simp [f_Req, runB, m_Req, sRet, eAnd, T.bind, e1, e2, e3, c1, c3, e, asB, List.replicate]
  · have e : ¬ p = q := fun z => c1 (by rw [z])
    have c3 : (p.num == q.num) = false := by simpa using c1
    simp [f_Req, runB, m_Req, sRet, eAnd, T.bind, e1, e2, c3, e, asB, List.replicate]
end Pd


namespace Pd
open PySem L2 PySem.Spec PyProof.Rows
def rRat : D → Option Str := rOne "Ratio" f_Rrepr
def eRat : D → D → Bool := eOne "Ratio" f_Req
abbrev f_is_integer : List D → T D := f_isInt
abbrev f_is_number : List D → T D := f_isNum
section
variable {P : Program} {w : World} {K : PySem.W.Frag} {mg : Str → Option Value} {base : Heap} {a_draw : Addr}
abbrev s_draw : Stmt := topR 55
theorem sc_draw : FnScope ["_law_pot_here", "_law_many", "_law_digit"] ["_law_pot_here", "_law_many"] (defScope s_draw) := ⟨rfl, rfl, rfl, by decide +kernel, rfl, by decide +kernel, by decide +kernel⟩
theorem g_draw {d_draw : FuncData} (F : Fun K "_law_draw" "_law_draw" s_draw a_draw d_draw) (zd : mg "divmod" = none) (zi : mg "int" = none) : FnOk P w K mg base CX0 1 a_draw d_draw ["_law_pot_here", "_law_many"] (spD K P w 2 f__law_draw) := by
  have nd := sc_draw.nd
  refine F.ok (k := 0) sc_draw (fun vs H Q E h => ?_) (fun cdv A outer s H vs Q E hr h => ⟨_, pss_cons (ps_if (pt_cmpR op_gt (pe_ix ix_list (pv 0) pe_int (fun _ _ => rfl)) pe_int (nomark _))
    (pss_cons (ps_asg (pe_callB call_divmod rfl zd (by decide +kernel) (pa_cons (pe_ix ix_list (pv 0) pe_int (fun _ _ => rfl)) (pa_cons (pv 1) pa_nil))) (pg_tup rfl (pgs_cons (pg_sub (pv 0) pe_int set_list) (pgs_cons (pg_name (i := 2) nd rfl (.inl rfl)) pgs_nil)))) (pss_one (ps_ret (pv 2)))) pss_nil)
    (pss_cons (ps_asg (pe_op op_mod (pe_callTy call_int1 rfl zi (by decide +kernel) (pa_cons (pe_op op_add (pe_op op_mul (pe_ix ix_list (pv 0) pe_int (fun _ _ => rfl)) pe_int) pe_int) pa_nil)) pe_int) (pg_sub (pv 0) pe_int set_list))
    (pss_one (ps_ret (pe_op op_mod (pe_callTy call_int1 rfl zi (by decide +kernel) (pa_cons (pe_op op_fdiv (pe_op op_mod (pe_callTy call_int1 rfl zi (by decide +kernel) (pa_cons (pe_op op_mul (pe_ix ix_list (pv 0) pe_int (fun _ _ => rfl)) (pe_ix ix_list (pv 0) pe_int (fun _ _ => rfl))) pa_nil)) pe_int) pe_int) pa_nil)) (pv 1))))), ?_⟩)
  · obtain ⟨π, N, ds, hn, r, hl, _⟩ := h
    exact hl
  · obtain ⟨π, N, ds, hn, r, hl, hall⟩ := h
    unfold f__law_draw at hall
    split at hall
    · rename_i n
      cases r with
      | cons r1 r =>
      cases r with
      | cons r2 r =>
      cases r
      cases r1
      cases r2
      obtain ⟨hb, hall⟩ := cond_all hall
      simp only [Bool.and_eq_true, decide_eq_true_eq] at hb
      obtain ⟨n0, n1⟩ := hb
      obtain ⟨x, y, hp, hx, hy, hy2⟩ := hn.pot
      have got : ∀ i : Int, 0 ≤ i → i < n → ∀ H', Ex π H H' → Q (.int i) H' := fun i i0 i1 H' e => by
        have q := hall i.toNat (by omega)
        have ei : ((i.toNat : Nat) : Int) = i := Int.toNat_of_nonneg i0
        have z := q (.int i) H' e
        rw [ei] at z
        exact z (.int i)
      refine ⟨_, rfl, π, _, 0, .int x, rfl, rfl, .inl (.inl hp), rfl, _, _, rfl, rfl, _, rfl, ?_⟩
      by_cases c : 0 < x
      · refine iteT' (decide_eq_true c) ?_
        refine ⟨_, rfl, π, _, 0, .int x, rfl, rfl, .inl (.inl hp), rfl, _, rfl, x, n, rfl, ⟨n0, by omega⟩, fun p pn => ?_⟩
        have ppi : p ≠ π := hn.pot.ne pn
        have h1 : upd H p (.tup [.int (x / n), .int (x % n)]) π = some (.lst [.int x, .int y]) := by rw [upd_ne ppi.symm]; exact hp
        refine ⟨p, _, rfl, .inl (.inl upd_same), rfl, _, _, rfl, ⟨_, rfl, π, _, 0, 0, rfl, rfl, h1, rfl, ?_⟩⟩
        refine ⟨_, _, rfl, ?_⟩
        show [] = [] ∧ _
        refine ⟨rfl, ?_⟩
        refine ⟨_, rfl, got (x % n) (Int.emod_nonneg x (by omega)) (Int.emod_lt_of_pos x n0) _ ⟨fun a o ne e => ?_, x / n, y, by rw [upd_same]; rfl, Int.ediv_nonneg hx (by omega), hy, hy2⟩⟩
        rw [upd_ne ne, upd_ne (ne_of_none e pn)]
        exact e
      · refine iteF' (decide_eq_false c) ?_
        have m1 : CMul y 39373 := .inl ⟨by omega, by omega⟩
        refine ⟨_, rfl, π, _, 1, .int y, rfl, rfl, .inl (.inl hp), rfl, _, _, rfl, rfl, m1, _, _, rfl, rfl, .inl ⟨_, rfl, _, _, rfl, rfl, (show (0 : Int) < 2147483587 by decide), _, rfl, π, _, 1, 1, rfl, rfl, hp, rfl, ?_⟩⟩
        have hy3 : 0 ≤ (y * 39373 + 709) % 2147483587 := Int.emod_nonneg _ (by decide)
        have hy4 : (y * 39373 + 709) % 2147483587 < 2147483587 := Int.emod_lt_of_pos _ (by decide)
        have h1 : upd H π (.lst ([.int x, .int y].set 1 (.int ((y * 39373 + 709) % 2147483587)))) π = some (.lst [.int x, .int ((y * 39373 + 709) % 2147483587)]) := upd_same
        have m2 : CMul ((y * 39373 + 709) % 2147483587) ((y * 39373 + 709) % 2147483587) := .inl ⟨by omega, by omega⟩
        refine ⟨_, rfl, π, _, 1, .int ((y * 39373 + 709) % 2147483587), rfl, rfl, .inl (.inl h1), rfl, _, rfl, π, _, 1, .int ((y * 39373 + 709) % 2147483587), rfl, rfl, .inl (.inl h1), rfl, _, _, rfl, rfl, m2, .inl ⟨_, rfl, _, _, rfl, rfl, (show (0 : Int) < 2147483563 by decide), _, _, rfl, rfl, (show CDiv _ 17 from ⟨by decide, by decide⟩), .inl ⟨_, rfl, _, rfl, _, _, rfl, rfl, n0, ?_⟩⟩⟩
        refine got _ (Int.emod_nonneg _ (by omega)) (Int.emod_lt_of_pos _ n0) _ ⟨fun a o ne e => ?_, x, ((y * 39373 + 709) % 2147483587), h1, hx, hy3, by omega⟩
        rw [upd_ne ne]
        exact e
    · exact False.elim hall
/-! the pot -/
def spPot (K : PySem.W.Frag) : Sp := fun vs H Q _ => ∃ (a : Addr) (ns : List Int) (k : Nat), vs = [.ref a, .int (k : Nat)] ∧ k < 1000 ∧ SqL K H a (ns.map V.int) ∧ ∀ (p : Addr) (x y : Int), H p = none → 0 ≤ x → 0 ≤ y → y < 2147483648 → Q (.ref p) (upd H p (.lst [.int x, .int y]))
abbrev s_pot : Stmt := topR 54
theorem sc_pot : FnScope ["_law_script", "_law_k", "_law_cell"] ["_law_script", "_law_k"] (defScope s_pot) := ⟨rfl, rfl, rfl, by decide +kernel, rfl, by decide +kernel, by decide +kernel⟩
abbrev rInt1 : List V → Hp → VK → Prop := fun xs H Q => (∃ i, xs = [V.int i] ∧ Q (V.int i) H) ∨ ∃ k, xs = [V.bl k] ∧ Q (V.int (if k = true then 1 else 0)) H
def potTe : TE := tLst (tCons (tCB (fun xs H Q => ∃ i j, xs = [V.int i, V.int j] ∧ Q (V.int (if j > i then j else i)) H) (tCons (tC (V.int 0)) (tCons (tOp (rI0 fun i j => V.int (i - j)) (tVar 2) (tOp (rI CPow fun i j => V.int (i ^ j.toNat)) (tC (V.int 10)) (tC (V.int 18)))) tNil)))
  (tCons (tOp (rI0 fun i j => V.int (i + j)) (tOp (rI (fun x j => 0 < j) fun i j => V.int (i % j)) (tCB rInt1 (tCons (tOp (rI0 fun i j => V.int (i + j)) (tOp (rI0 fun i j => V.int (i + j)) (tOp (rI CMul fun i j => V.int (i * j)) (tOp (rI (fun x j => 0 < j) fun i j => V.int (i % j)) (tCB rInt1 (tCons (tVar 2) tNil)) (tC (V.int 2147483549))) (tC (V.int 48271)))
    (tOp (rI CMul fun i j => V.int (i * j)) (tC (V.int 29718)) (tVar 1))) (tC (V.int 709))) tNil)) (tC (V.int 2147483563))) (tC (V.int 1))) tNil))
theorem potTail {De : Ends} {Q : VK} {a : Addr} {k : Nat} {H : Hp} {c : Int} {Nm : List Str} (hN : Nm.length = 3) (hQ : De.rt = Q) (q : ∀ (p : Addr) (x y : Int), H p = none → 0 ≤ x → 0 ≤ y → y < 2147483648 → Q (.ref p) (upd H p (.lst [.int x, .int y]))) (hk : k < 1000) (c0 : 0 ≤ c) :
    tRet potTe De ((L2.start Nm [.ref a, .int (k : Nat)]).set 2 (some (.int c))) H := by
  subst hQ
  have e2 : ((L2.start Nm [.ref a, .int (k : Nat)]).set 2 (some (.int c)))[2]? = some (some (.int c)) := by
    rw [List.getElem?_set_self]
    unfold L2.start
    rw [List.length_append, List.length_map, List.length_replicate, hN]
    exact (by decide : 2 < 2 + (3 - 2))
  have e1 : ((L2.start Nm [.ref a, .int (k : Nat)]).set 2 (some (.int c)))[1]? = some (some (.int (k : Nat))) := rfl
  have m1 : CMul (c % 2147483549) 48271 := .inr ⟨by decide, by decide⟩
  have m2 : CMul 29718 ((k : Nat) : Int) := .inl ⟨by decide, by decide⟩
  have y0 := Int.emod_nonneg (c % 2147483549 * 48271 + 29718 * ((k : Nat) : Int) + 709) (show (2147483563 : Int) ≠ 0 by decide)
  have y1 := Int.emod_lt_of_pos (c % 2147483549 * 48271 + 29718 * ((k : Nat) : Int) + 709) (show (0 : Int) < 2147483563 by decide)
  refine ⟨_, e2, _, _, rfl, rfl, ⟨by decide, by decide, by decide⟩, _, _, rfl, rfl, _, _, rfl, _, e2, .inl ⟨_, rfl, _, _, rfl, rfl, (show (0 : Int) < 2147483549 by decide), _, _, rfl, rfl, m1, _, e1, _, _, rfl, rfl, m2, _, _, rfl, rfl, _, _, rfl, rfl, .inl ⟨_, rfl, _, _, rfl, rfl, (show (0 : Int) < 2147483563 by decide), _, _, rfl, rfl, by show 2 ≤ sizeLine; decide, fun p hp => q p _ _ hp ?_ (by omega) (by omega)⟩⟩⟩
  split <;> omega
theorem g_pot {a_pot : Addr} {d_pot : FuncData} (F : Fun K "_law_pot" "_law_pot" s_pot a_pot d_pot) (za : mg "abs" = none) (zl : mg "len" = none) (zm : mg "max" = none) (zi : mg "int" = none) : FnOk P w K mg base CX0 1 a_pot d_pot ["_law_script", "_law_k"] (spPot K) := by
  have nd := sc_pot.nd
  refine F.ok (k := 0) sc_pot (fun vs H Q E h => ?_) (fun cdv A outer s H vs Q E hr h => ⟨_, pss_cons (ps_set (i := 2) nd rfl (.inl rfl) (pe_ifExp (pt_cmpR op_lt (pv 1) (pe_callB call_len_seq rfl zl (by decide +kernel) (pa_cons (pv 0) pa_nil)) (nomark _))
    (pe_callB call_abs rfl za (by decide +kernel) (pa_cons (pe_ix ix_list (pv 0) (pv 1) (fun _ _ => rfl)) pa_nil)) (pe_op op_add (pe_op op_mul pe_int (pv 1)) pe_int)))
    (pss_one (ps_ret (pe_lst (pa_cons (pe_callB (call_max2 rfl) rfl zm (by decide +kernel) (pa_cons pe_int (pa_cons (pe_op op_sub (pv 2) (pe_op op_pow pe_int pe_int)) pa_nil)))
      (pa_cons (pe_op op_add (pe_op op_mod (pe_callTy call_int1 rfl zi (by decide +kernel) (pa_cons (pe_op op_add (pe_op op_add (pe_op op_mul (pe_op op_mod (pe_callTy call_int1 rfl zi (by decide +kernel) (pa_cons (pv 2) pa_nil)) pe_int) pe_int) (pe_op op_mul pe_int (pv 1))) pe_int) pa_nil)) pe_int) pe_int) pa_nil))))), ?_⟩)
  · obtain ⟨a, ns, k, rfl, _⟩ := h
    rfl
  · obtain ⟨a, ns, k, rfl, hk, hs, q⟩ := h
    refine ⟨_, rfl, _, rfl, a, _, rfl, .inl hs, _, _, rfl, rfl, _, rfl, ?_⟩
    have hlt : decide (((k : Nat) : Int) < ((ns.map V.int).length : Nat)) = decide (k < ns.length) := by
      rw [List.length_map]
      exact decide_eq_decide.mpr (by omega)
    rcases Nat.lt_or_ge k ns.length with c | c
    · refine iteT' (hlt.trans (decide_eq_true c)) ?_
      refine ⟨_, rfl, _, rfl, a, _, (k : Nat), _, rfl, rfl, hs, atI_cell c, _, rfl, ?_⟩
      have c0 : 0 ≤ (if cellOf ns k < 0 then -cellOf ns k else cellOf ns k) := by split <;> omega
      exact potTail (Nm := ["_law_script", "_law_k", "_law_cell"]) rfl rfl q hk c0
    · refine iteF' (hlt.trans (decide_eq_false (by omega))) ?_
      refine ⟨_, rfl, _, _, rfl, rfl, (.inl ⟨by decide, by decide⟩ : CMul 953 ((k : Nat) : Int)), _, _, rfl, rfl, ?_⟩
      have c0 : 0 ≤ 953 * ((k : Nat) : Int) + 809 := by omega
      exact potTail (Nm := ["_law_script", "_law_k", "_law_cell"]) rfl rfl q hk c0
end

abbrev s_is_count : Stmt := topR 17
theorem sc_is_count : FnScope ["value"] ["value"] (defScope s_is_count) := ⟨rfl, rfl, rfl, by decide +kernel, rfl, by decide +kernel, by decide +kernel⟩
def m_is_count : Rho → T Out := (sRet (eAnd (eCall 1 f_is_integer (aCons (eVar 0) aNil)) (eBin opGe (eVar 0) (eC (.int 0)))))
def f_is_count : List D → T D := runB 1 m_is_count
abbrev s_is_count_to : Stmt := topR 18
theorem sc_is_count_to : FnScope ["value", "most"] ["value", "most"] (defScope s_is_count_to) := ⟨rfl, rfl, rfl, by decide +kernel, rfl, by decide +kernel, by decide +kernel⟩
def m_is_count_to : Rho → T Out := (sRet (eAnd (eCall 1 f_is_count (aCons (eVar 0) aNil)) (eBin opLe (eVar 0) (eVar 1))))
def f_is_count_to : List D → T D := runB 2 m_is_count_to
abbrev s_is_list : Stmt := topR 19
theorem sc_is_list : FnScope ["value"] ["value"] (defScope s_is_list) := ⟨rfl, rfl, rfl, by decide +kernel, rfl, by decide +kernel, by decide +kernel⟩
def m_is_list : Rho → T Out := (sRet (eUn (isD2 ["Ratio", "Table"] .list .tuple) (eVar 0)))
def f_is_list : List D → T D := runB 1 m_is_list
abbrev s_need_columns : Stmt := topR 20
theorem sc_need_columns : FnScope ["columns"] ["columns"] (defScope s_need_columns) := ⟨rfl, rfl, rfl, by decide +kernel, rfl, by decide +kernel, by decide +kernel⟩
def m_need_columns : Rho → T Out := (sIf (tNot' (eTest (eCall 2 f_is_count_to (aCons (eVar 0) (aCons (eC (.int 3)) aNil))))) sFail bNil)
def f_need_columns : List D → T D := runB 1 m_need_columns
abbrev s_as_ratio : Stmt := topR 27
theorem sc_as_ratio : FnScope ["number"] ["number"] (defScope s_as_ratio) := ⟨rfl, rfl, rfl, by decide +kernel, rfl, by decide +kernel, by decide +kernel⟩
def m_as_ratio : Rho → T Out := (bSeq (sIf (eTest (eUn (isOC ["Ratio", "Table"] "Ratio") (eVar 0))) (sRet (eVar 0)) bNil) (sRet (eMake "Ratio" 1 [.int 1] f_Ratio_init (aCons (eVar 0) aNil))))
def f_as_ratio : List D → T D := runB 1 m_as_ratio
abbrev s_are_numbers : Stmt := topR 28
theorem sc_are_numbers : FnScope ["value", "many", "number"] ["value", "many"] (defScope s_are_numbers) := ⟨rfl, rfl, rfl, by decide +kernel, rfl, by decide +kernel, by decide +kernel⟩
def m_are_numbers : Rho → T Out := (sRet (eAnd (eCall 1 f_is_list (aCons (eVar 0) aNil)) (eAnd (eBin opEqF (eCa bLen (aCons (eVar 0) aNil)) (eVar 1)) (eCa bAll (aCons (eL (lComp [2] (iSq 0) (gNm 2) yesT (eCall 1 f_is_number (aCons (eVar 2) aNil)))) aNil)))))
def f_are_numbers : List D → T D := runB 3 m_are_numbers
abbrev s_are_rows : Stmt := topR 32
theorem sc_are_rows : FnScope ["columns", "value", "row"] ["columns", "value"] (defScope s_are_rows) := ⟨rfl, rfl, rfl, by decide +kernel, rfl, by decide +kernel, by decide +kernel⟩
def m_are_rows : Rho → T Out := (bSeq (sIf (tOr' (tNot' (eTest (eCall 1 f_is_list (aCons (eVar 1) aNil)))) (eTest (eBin opGt (eCa bLen (aCons (eVar 1) aNil)) (eC (.int 40))))) (sRet (eC (.bl false))) bNil) (sRet (eCa bAll (aCons (eL (lComp [2] (iSq 1) (gNm 2) yesT (eCall 2 f_are_numbers (aCons (eVar 2) (aCons (eVar 0) aNil))))) aNil))))
def f_are_rows : List D → T D := runB 3 m_are_rows
abbrev s_Table_init : Stmt := inClass (topR 31) 0
theorem sc_Table_init : FnScope ["self", "columns", "rows", "row", "number"] ["self", "columns", "rows"] (defScope s_Table_init) := ⟨rfl, rfl, rfl, by decide +kernel, rfl, by decide +kernel, by decide +kernel⟩
def m_Table_init : MI := (iChk (eCall 1 f_need_columns (aCons (eVar 1) aNil)) (iIf (tNot' (eTest (eCall 2 f_are_rows (aCons (eVar 1) (aCons (eVar 2) aNil))))) (iFld "_columns" (eVar 1) (iFld "_rows" (eL (lComp [3] (iSq 2) (gNm 3) yesT (eL (lComp [4] (iSq 3) (gNm 4) yesT (eCall 1 f_as_ratio (aCons (eVar 4) aNil)))))) iNil))))
def f_Table_init : List D → T (List (Str × D)) := runI 4 m_Table_init
abbrev s_Table_columns : Stmt := inClass (topR 31) 1
theorem sc_Table_columns : FnScope ["self"] ["self"] (defScope s_Table_columns) := ⟨rfl, rfl, rfl, by decide +kernel, rfl, by decide +kernel, by decide +kernel⟩
def m_Table_columns : Rho → T Out := (sRet (eUn (attrD "Table" "_columns") (eVar 0)))
def f_Table_columns : List D → T D := runB 1 m_Table_columns
abbrev s_Table_height : Stmt := inClass (topR 31) 2
theorem sc_Table_height : FnScope ["self"] ["self"] (defScope s_Table_height) := ⟨rfl, rfl, rfl, by decide +kernel, rfl, by decide +kernel, by decide +kernel⟩
def m_Table_height : Rho → T Out := (sRet (eCa bLen (aCons (eUn (attrD "Table" "_rows") (eVar 0)) aNil)))
def f_Table_height : List D → T D := runB 1 m_Table_height
abbrev s_Table_rows : Stmt := inClass (topR 31) 3
theorem sc_Table_rows : FnScope ["self", "row"] ["self"] (defScope s_Table_rows) := ⟨rfl, rfl, rfl, by decide +kernel, rfl, by decide +kernel, by decide +kernel⟩
def m_Table_rows : Rho → T (List D) := (lComp [1] (iLst (eUn (attrD "Table" "_rows") (eVar 0))) (gNm 1) yesT (eL (lCa bList (aCons (eVar 1) aNil))))
def f_Table_rows : List D → T (List D) := runL 2 m_Table_rows
abbrev s_Table_eq : Stmt := inClass (topR 31) 4
theorem sc_Table_eq : FnScope ["self", "other"] ["self", "other"] (defScope s_Table_eq) := ⟨rfl, rfl, rfl, by decide +kernel, rfl, by decide +kernel, by decide +kernel⟩
def m_Table_eq : Rho → T Out := (sRet (eAnd (eUn (isOC ["Ratio", "Table"] "Table") (eVar 1)) (eAnd (eBin opEqF (eUn (attrD "Table" "_columns") (eVar 0)) (eUn (attrD "Table" "_columns") (eVar 1))) (eBin opEqF (eUn (attrD "Table" "_rows") (eVar 0)) (eUn (attrD "Table" "_rows") (eVar 1))))))
def f_Table_eq : List D → T D := runB 2 m_Table_eq
abbrev s_need_like_columns : Stmt := topR 21
theorem sc_need_like_columns : FnScope ["first", "second"] ["first", "second"] (defScope s_need_like_columns) := ⟨rfl, rfl, rfl, by decide +kernel, rfl, by decide +kernel, by decide +kernel⟩
def m_need_like_columns : Rho → T Out := (sIf (eTest (eBin opNeF (eProp "Table" f_Table_columns (eVar 0)) (eProp "Table" f_Table_columns (eVar 1)))) sFail bNil)
def f_need_like_columns : List D → T D := runB 2 m_need_like_columns
abbrev s_need_table : Stmt := topR 33
theorem sc_need_table : FnScope ["table"] ["table"] (defScope s_need_table) := ⟨rfl, rfl, rfl, by decide +kernel, rfl, by decide +kernel, by decide +kernel⟩
def m_need_table : Rho → T Out := (sIf (tNot' (eTest (eUn (isOC ["Ratio", "Table"] "Table") (eVar 0)))) sFail bNil)
def f_need_table : List D → T D := runB 1 m_need_table
abbrev s_need_place_for_rows : Stmt := topR 34
theorem sc_need_place_for_rows : FnScope ["many"] ["many"] (defScope s_need_place_for_rows) := ⟨rfl, rfl, rfl, by decide +kernel, rfl, by decide +kernel, by decide +kernel⟩
def m_need_place_for_rows : Rho → T Out := (sIf (eTest (eBin opGt (eVar 0) (eC (.int 40)))) sFail bNil)
def f_need_place_for_rows : List D → T D := runB 1 m_need_place_for_rows
abbrev s_joined : Stmt := topR 35
theorem sc_joined : FnScope ["table", "other"] ["table", "other"] (defScope s_joined) := ⟨rfl, rfl, rfl, by decide +kernel, rfl, by decide +kernel, by decide +kernel⟩
def m_joined : Rho → T Out := (bSeq (sExpr (eCall 1 f_need_table (aCons (eVar 0) aNil))) (bSeq (sExpr (eCall 1 f_need_table (aCons (eVar 1) aNil))) (bSeq (sExpr (eCall 2 f_need_like_columns (aCons (eVar 0) (aCons (eVar 1) aNil)))) (bSeq (sExpr (eCall 1 f_need_place_for_rows (aCons (eBin opAdd (eProp "Table" f_Table_height (eVar 0)) (eProp "Table" f_Table_height (eVar 1))) aNil))) (sRet (eMake "Table" 2 [] f_Table_init (aCons (eProp "Table" f_Table_columns (eVar 0)) (aCons (eBin opAdd (eMeth "Table" "rows" 0 (asD f_Table_rows) (eVar 0) aNil) (eMeth "Table" "rows" 0 (asD f_Table_rows) (eVar 1) aNil)) aNil))))))))
def f_joined : List D → T D := runB 2 m_joined
abbrev s_turned : Stmt := topR 36
theorem sc_turned : FnScope ["table"] ["table"] (defScope s_turned) := ⟨rfl, rfl, rfl, by decide +kernel, rfl, by decide +kernel, by decide +kernel⟩
def m_turned : Rho → T Out := (bSeq (sExpr (eCall 1 f_need_table (aCons (eVar 0) aNil))) (sRet (eMake "Table" 2 [] f_Table_init (aCons (eProp "Table" f_Table_columns (eVar 0)) (aCons (eL (lRev (eMeth "Table" "rows" 0 (asD f_Table_rows) (eVar 0) aNil))) aNil)))))
def f_turned : List D → T D := runB 1 m_turned
abbrev s_is_letter_to : Stmt := topR 40
theorem sc_is_letter_to : FnScope ["columns", "value", "most", "power"] ["columns", "value", "most"] (defScope s_is_letter_to) := ⟨rfl, rfl, rfl, by decide +kernel, rfl, by decide +kernel, by decide +kernel⟩
def m_is_letter_to : Rho → T Out := (bSeq (sIf (tOr' (tNot' (eTest (eUn (isDY ["Ratio", "Table"] .tuple) (eVar 1)))) (eTest (eBin opNeF (eCa bLen (aCons (eVar 1) aNil)) (eVar 0)))) (sRet (eC (.bl false))) bNil) (sRet (eCa bAll (aCons (eL (lComp [3] (iTp (eVar 1)) (gNm 3) yesT (eCall 2 f_is_count_to (aCons (eVar 3) (aCons (eVar 2) aNil))))) aNil))))
def f_is_letter_to : List D → T D := runB 4 m_is_letter_to
abbrev s_is_word_to : Stmt := topR 42
theorem sc_is_word_to : FnScope ["columns", "value", "most", "letter"] ["columns", "value", "most"] (defScope s_is_word_to) := ⟨rfl, rfl, rfl, by decide +kernel, rfl, by decide +kernel, by decide +kernel⟩
def m_is_word_to : Rho → T Out := (bSeq (sIf (tOr' (tNot' (eTest (eUn (isDY ["Ratio", "Table"] .tuple) (eVar 1)))) (eTest (eBin opGt (eCa bLen (aCons (eVar 1) aNil)) (eC (.int 8))))) (sRet (eC (.bl false))) bNil) (sRet (eCa bAll (aCons (eL (lComp [3] (iTp (eVar 1)) (gNm 3) yesT (eCall 3 f_is_letter_to (aCons (eVar 0) (aCons (eVar 3) (aCons (eVar 2) aNil)))))) aNil))))
def f_is_word_to : List D → T D := runB 4 m_is_word_to
abbrev s_is_word : Stmt := topR 41
theorem sc_is_word : FnScope ["columns", "value"] ["columns", "value"] (defScope s_is_word) := ⟨rfl, rfl, rfl, by decide +kernel, rfl, by decide +kernel, by decide +kernel⟩
def m_is_word : Rho → T Out := (bSeq (sExpr (eCall 1 f_need_columns (aCons (eVar 0) aNil))) (sRet (eCall 3 f_is_word_to (aCons (eVar 0) (aCons (eVar 1) (aCons (eC (.int 8)) aNil))))))
def f_is_word : List D → T D := runB 2 m_is_word
abbrev s_need_word : Stmt := topR 43
theorem sc_need_word : FnScope ["columns", "word"] ["columns", "word"] (defScope s_need_word) := ⟨rfl, rfl, rfl, by decide +kernel, rfl, by decide +kernel, by decide +kernel⟩
def m_need_word : Rho → T Out := (sIf (tNot' (eTest (eCall 2 f_is_word (aCons (eVar 0) (aCons (eVar 1) aNil))))) sFail bNil)
def f_need_word : List D → T D := runB 2 m_need_word
abbrev s_worth_at : Stmt := topR 44
theorem sc_worth_at : FnScope ["letter", "row", "top", "bottom", "power", "number", "_"] ["letter", "row"] (defScope s_worth_at) := ⟨rfl, rfl, rfl, by decide +kernel, rfl, by decide +kernel, by decide +kernel⟩
def m_worth_at : Rho → T Out := (bSeq (sAsg (gTp 2 (gsCons (gNm 2) (gsCons (gNm 3) gsNil))) (eTup (aCons (eC (.int 1)) (aCons (eC (.int 1)) aNil)))) (bSeq (sFor (iRg zipM (aCons (eVar 0) (aCons (eVar 1) aNil))) (gTp 2 (gsCons (gNm 4) (gsCons (gNm 5) gsNil))) (sFor (iRg rng1 (aCons (eVar 4) aNil)) (gNm 6) (bSeq (sSet 2 (eBin opMulG (eVar 2) (eProp "Ratio" f_Rtop (eVar 5)))) (sSet 3 (eBin opMulG (eVar 3) (eProp "Ratio" f_Rbottom (eVar 5))))))) (sRet (eMake "Ratio" 2 [] f_Ratio_init (aCons (eVar 2) (aCons (eVar 3) aNil))))))
def f_worth_at : List D → T D := runB 7 m_worth_at
abbrev s_longer_sums : Stmt := topR 50
theorem sc_longer_sums : FnScope ["sums", "worth", "longer", "at", "number"] ["sums", "worth"] (defScope s_longer_sums) := ⟨rfl, rfl, rfl, by decide +kernel, rfl, by decide +kernel, by decide +kernel⟩
def m_longer_sums : Rho → T (List D) := (bSeqL (sOwn 2 (lLst (aCons (eMake "Ratio" 1 [.int 1] f_Ratio_init (aCons (eC (.int 0)) aNil)) aNil))) (bSeqL (sFor (iRg enumL (aCons (eVar 1) aNil)) (gTp 2 (gsCons (gNm 3) (gsCons (gNm 4) gsNil))) (sApp 2 (eBin (opAny "Ratio" opAdd (f_Radd' f_tb) (f_Rback (f_Radd' f_tb))) (ixOwn 2 (eVar 3)) (eBin (opAny "Ratio" opMulT (f_Rmul f_tb) (f_Rback (f_Rmul f_tb))) (eBin ixD (eVar 0) (eVar 3)) (eVar 4))))) (retOwn 2)))
def f_longer_sums : List D → T (List D) := runL 5 m_longer_sums
abbrev s_sums_of : Stmt := topR 49
theorem sc_sums_of : FnScope ["worths", "height", "sums", "worth", "_"] ["worths", "height"] (defScope s_sums_of) := ⟨rfl, rfl, rfl, by decide +kernel, rfl, by decide +kernel, by decide +kernel⟩
def m_sums_of : Rho → T (List D) := (bSeqL (sOwn 2 (lComp [4] (iRg rng1 (aCons (eBin opAdd (eVar 1) (eC (.int 1))) aNil)) (gNm 4) yesT (eMake "Ratio" 1 [.int 1] f_Ratio_init (aCons (eC (.int 1)) aNil)))) (bSeqL (sFor (iLst (eVar 0)) (gNm 3) (bFreeze 2 (sOwn 2 (lCallF 2 f_longer_sums (aCons (eVar 2) (aCons (eVar 3) aNil)))))) (retOwn 2)))
def f_sums_of : List D → T (List D) := runL 5 m_sums_of
abbrev s_worths_at : Stmt := topR 48
theorem sc_worths_at : FnScope ["letter", "rows", "row"] ["letter", "rows"] (defScope s_worths_at) := ⟨rfl, rfl, rfl, by decide +kernel, rfl, by decide +kernel, by decide +kernel⟩
def m_worths_at : Rho → T (List D) := (lComp [2] (iLst (eVar 1)) (gNm 2) yesT (eCall 2 f_worth_at (aCons (eVar 0) (aCons (eVar 2) aNil))))
def f_worths_at : List D → T (List D) := runL 3 m_worths_at
abbrev s_sums_ahead : Stmt := topR 46
theorem sc_sums_ahead : FnScope ["table", "word", "rows", "letter"] ["table", "word"] (defScope s_sums_ahead) := ⟨rfl, rfl, rfl, by decide +kernel, rfl, by decide +kernel, by decide +kernel⟩
def m_sums_ahead : Rho → T (List D) := (bSeqL (sExpr (eCall 1 f_need_table (aCons (eVar 0) aNil))) (bSeqL (sExpr (eCall 2 f_need_word (aCons (eProp "Table" f_Table_columns (eVar 0)) (aCons (eVar 1) aNil)))) (bSeqL (sSet 2 (eMeth "Table" "rows" 0 (asD f_Table_rows) (eVar 0) aNil)) (lCallF 2 f_sums_of (aCons (eL (lComp [3] (iTp (eVar 1)) (gNm 3) yesT (eL (lCallF 2 f_worths_at (aCons (eVar 3) (aCons (eVar 2) aNil)))))) (aCons (eProp "Table" f_Table_height (eVar 0)) aNil))))))
def f_sums_ahead : List D → T (List D) := runL 4 m_sums_ahead
abbrev s_word_sum : Stmt := topR 45
theorem sc_word_sum : FnScope ["table", "word"] ["table", "word"] (defScope s_word_sum) := ⟨rfl, rfl, rfl, by decide +kernel, rfl, by decide +kernel, by decide +kernel⟩
def m_word_sum : Rho → T Out := (sRet (eBin ixD (eL (lCallF 2 f_sums_ahead (aCons (eVar 0) (aCons (eVar 1) aNil)))) (eUn uNeg (eC (.int 1)))))
def f_word_sum : List D → T D := runB 2 m_word_sum
abbrev s_sums_behind : Stmt := topR 47
theorem sc_sums_behind : FnScope ["table", "word", "rows", "letter"] ["table", "word"] (defScope s_sums_behind) := ⟨rfl, rfl, rfl, by decide +kernel, rfl, by decide +kernel, by decide +kernel⟩
def m_sums_behind : Rho → T (List D) := (bSeqL (sExpr (eCall 1 f_need_table (aCons (eVar 0) aNil))) (bSeqL (sExpr (eCall 2 f_need_word (aCons (eProp "Table" f_Table_columns (eVar 0)) (aCons (eVar 1) aNil)))) (bSeqL (sSet 2 (eL (lRev (eMeth "Table" "rows" 0 (asD f_Table_rows) (eVar 0) aNil)))) (lRev (eL (lCallF 2 f_sums_of (aCons (eL (lComp [3] (iTp (eRevT (eVar 1))) (gNm 3) yesT (eL (lCallF 2 f_worths_at (aCons (eVar 3) (aCons (eVar 2) aNil)))))) (aCons (eProp "Table" f_Table_height (eVar 0)) aNil))))))))
def f_sums_behind : List D → T (List D) := runL 4 m_sums_behind
abbrev s_cuts : Stmt := topR 51
theorem sc_cuts : FnScope ["columns", "word", "at"] ["columns", "word"] (defScope s_cuts) := ⟨rfl, rfl, rfl, by decide +kernel, rfl, by decide +kernel, by decide +kernel⟩
def m_cuts : Rho → T (List D) := (bSeqL (sExpr (eCall 2 f_need_word (aCons (eVar 0) (aCons (eVar 1) aNil)))) (lComp [2] (iRg rng1 (aCons (eBin opAdd (eCa bLen (aCons (eVar 1) aNil)) (eC (.int 1))) aNil)) (gNm 2) yesT (eTup (aCons (eSl (eVar 1) oNo (oPart (eVar 2))) (aCons (eSl (eVar 1) (oPart (eVar 2)) oNo) aNil)))))
def f_cuts : List D → T (List D) := runL 3 m_cuts
abbrev s_turned_word : Stmt := topR 52
theorem sc_turned_word : FnScope ["columns", "word"] ["columns", "word"] (defScope s_turned_word) := ⟨rfl, rfl, rfl, by decide +kernel, rfl, by decide +kernel, by decide +kernel⟩
def m_turned_word : Rho → T Out := (bSeq (sExpr (eCall 2 f_need_word (aCons (eVar 0) (aCons (eVar 1) aNil)))) (sRet (eRevT (eVar 1))))
def f_turned_word : List D → T D := runB 2 m_turned_word
abbrev s__law_divisor : Stmt := topR 56
theorem sc__law_divisor : FnScope ["_law_one", "_law_other"] ["_law_one", "_law_other"] (defScope s__law_divisor) := ⟨rfl, rfl, rfl, by decide +kernel, rfl, by decide +kernel, by decide +kernel⟩
def m__law_divisor : Rho → T Out := (bSeq (whT (eTest (eBin opNeF (eVar 1) (eC (.int 0)))) (sPar 0 1 (eVar 1) (eBin opModG (eCa bInt (aCons (eVar 0) aNil)) (eVar 1))) 20000) (sRet (eCa bAbs (aCons (eVar 0) aNil))))
def f__law_divisor : List D → T D := runB 2 m__law_divisor
abbrev s__law_low : Stmt := topR 57
theorem sc__law_low : FnScope ["_law_top", "_law_bottom", "_law_part"] ["_law_top", "_law_bottom"] (defScope s__law_low) := ⟨rfl, rfl, rfl, by decide +kernel, rfl, by decide +kernel, by decide +kernel⟩
def m__law_low : Rho → T Out := (bSeq (sSet 2 (eCall 2 f__law_divisor (aCons (eVar 0) (aCons (eVar 1) aNil)))) (sRet (eTup (aCons (eBin opFDivG (eVar 0) (eVar 2)) (aCons (eBin opFDivG (eVar 1) (eVar 2)) aNil)))))
def f__law_low : List D → T D := runB 3 m__law_low
abbrev s__law_plus : Stmt := topR 58
theorem sc__law_plus : FnScope ["_law_one", "_law_other"] ["_law_one", "_law_other"] (defScope s__law_plus) := ⟨rfl, rfl, rfl, by decide +kernel, rfl, by decide +kernel, by decide +kernel⟩
def m__law_plus : Rho → T Out := (sRet (eCall 2 f__law_low (aCons (eBin opAdd (eBin opMulG (eBin ixD (eVar 0) (eC (.int 0))) (eBin ixD (eVar 1) (eC (.int 1)))) (eBin opMulG (eBin ixD (eVar 1) (eC (.int 0))) (eBin ixD (eVar 0) (eC (.int 1))))) (aCons (eBin opMulG (eBin ixD (eVar 0) (eC (.int 1))) (eBin ixD (eVar 1) (eC (.int 1)))) aNil))))
def f__law_plus : List D → T D := runB 2 m__law_plus
abbrev s__law_times : Stmt := topR 59
theorem sc__law_times : FnScope ["_law_one", "_law_other"] ["_law_one", "_law_other"] (defScope s__law_times) := ⟨rfl, rfl, rfl, by decide +kernel, rfl, by decide +kernel, by decide +kernel⟩
def m__law_times : Rho → T Out := (sRet (eCall 2 f__law_low (aCons (eBin opMulG (eBin ixD (eVar 0) (eC (.int 0))) (eBin ixD (eVar 1) (eC (.int 0)))) (aCons (eBin opMulG (eBin ixD (eVar 0) (eC (.int 1))) (eBin ixD (eVar 1) (eC (.int 1)))) aNil))))
def f__law_times : List D → T D := runB 2 m__law_times
abbrev s__law_ratio : Stmt := topR 60
theorem sc__law_ratio : FnScope ["_law_number_here"] ["_law_number_here"] (defScope s__law_ratio) := ⟨rfl, rfl, rfl, by decide +kernel, rfl, by decide +kernel, by decide +kernel⟩
def m__law_ratio : Rho → T Out := (sRet (eMake "Ratio" 2 [] f_Ratio_init (aCons (eBin ixD (eVar 0) (eC (.int 0))) (aCons (eBin ixD (eVar 0) (eC (.int 1))) aNil))))
def f__law_ratio : List D → T D := runB 1 m__law_ratio
abbrev s__law_number : Stmt := topR 61
theorem sc__law_number : FnScope ["_law_pot_here", "_law_top"] ["_law_pot_here"] (defScope s__law_number) := ⟨rfl, rfl, rfl, by decide +kernel, rfl, by decide +kernel, by decide +kernel⟩
def m__law_number : Rho → T Out := (bSeq (sSet 1 (eBin opSub (eCall 2 f__law_draw (aCons (eVar 0) (aCons (eC (.int 6)) aNil))) (eC (.int 2)))) (sRet (eIf (eTest (eBin opEqF (eCall 2 f__law_draw (aCons (eVar 0) (aCons (eC (.int 5)) aNil))) (eC (.int 0)))) (eCall 2 f__law_low (aCons (eVar 1) (aCons (eBin opAdd (eC (.int 2)) (eCall 2 f__law_draw (aCons (eVar 0) (aCons (eC (.int 2)) aNil)))) aNil))) (eTup (aCons (eVar 1) (aCons (eC (.int 1)) aNil))))))
def f__law_number : List D → T D := runB 2 m__law_number
abbrev s__law_rows : Stmt := topR 62
theorem sc__law_rows : FnScope ["_law_pot_here", "_law_columns", "_law_many", "_law_found", "_law_turn", "_law_row", "_law_column"] ["_law_pot_here", "_law_columns", "_law_many"] (defScope s__law_rows) := ⟨rfl, rfl, rfl, by decide +kernel, rfl, by decide +kernel, by decide +kernel⟩
def m__law_rows : Rho → T Out := (bSeq (sOwn 3 (lLst aNil)) (bSeq (sFor (iRg rng1 (aCons (eVar 2) aNil)) (gNm 4) (bSeq (sOwn 5 (lLst aNil)) (bSeq (sFor (iRg rng1 (aCons (eVar 1) aNil)) (gNm 6) (sApp 5 (eCall 1 f__law_number (aCons (eVar 0) aNil)))) (bFreeze 5 (sApp 3 (eVar 5)))))) (bFreeze 3 (sRet (eVar 3)))))
def f__law_rows : List D → T D := runB 7 m__law_rows
abbrev s__law_passed : Stmt := topR 63
theorem sc__law_passed : FnScope ["_law_pot_here", "_law_row", "_law_number_here"] ["_law_pot_here", "_law_row"] (defScope s__law_passed) := ⟨rfl, rfl, rfl, by decide +kernel, rfl, by decide +kernel, by decide +kernel⟩
def m__law_passed : Rho → T Out := (sRet (eL (lComp [2] (iLst (eVar 1)) (gNm 2) yesT (eIf (tAnd' (eTest (eBin opEqF (eBin ixD (eVar 2) (eC (.int 1))) (eC (.int 1)))) (eTest (eBin opGt (eCall 2 f__law_draw (aCons (eVar 0) (aCons (eC (.int 3)) aNil))) (eC (.int 0))))) (eBin ixD (eVar 2) (eC (.int 0))) (eCall 1 f__law_ratio (aCons (eVar 2) aNil))))))
def f__law_passed : List D → T D := runB 3 m__law_passed
abbrev s__law_table : Stmt := topR 64
theorem sc__law_table : FnScope ["_law_pot_here", "_law_columns", "_law_rows_here", "_law_row"] ["_law_pot_here", "_law_columns", "_law_rows_here"] (defScope s__law_table) := ⟨rfl, rfl, rfl, by decide +kernel, rfl, by decide +kernel, by decide +kernel⟩
def m__law_table : Rho → T Out := (sRet (eMake "Table" 2 [] f_Table_init (aCons (eVar 1) (aCons (eL (lComp [3] (iLst (eVar 2)) (gNm 3) yesT (eCall 2 f__law_passed (aCons (eVar 0) (aCons (eVar 3) aNil))))) aNil))))
def f__law_table : List D → T D := runB 4 m__law_table
abbrev s__law_letter : Stmt := topR 65
theorem sc__law_letter : FnScope ["_law_pot_here", "_law_columns", "_law_most", "_law_powers", "_law_column"] ["_law_pot_here", "_law_columns", "_law_most"] (defScope s__law_letter) := ⟨rfl, rfl, rfl, by decide +kernel, rfl, by decide +kernel, by decide +kernel⟩
def m__law_letter : Rho → T Out := (bSeq (sOwn 3 (lLst aNil)) (bSeq (sFor (iRg rng1 (aCons (eVar 1) aNil)) (gNm 4) (sApp 3 (eCall 2 f__law_draw (aCons (eVar 0) (aCons (eBin opAdd (eVar 2) (eC (.int 1))) aNil))))) (bFreeze 3 (sRet (eCa bTuple (aCons (eVar 3) aNil))))))
def f__law_letter : List D → T D := runB 5 m__law_letter
abbrev s__law_word : Stmt := topR 66
theorem sc__law_word : FnScope ["_law_pot_here", "_law_columns", "_law_many", "_law_found", "_law_turn"] ["_law_pot_here", "_law_columns", "_law_many"] (defScope s__law_word) := ⟨rfl, rfl, rfl, by decide +kernel, rfl, by decide +kernel, by decide +kernel⟩
def m__law_word : Rho → T Out := (bSeq (sOwn 3 (lLst aNil)) (bSeq (sFor (iRg rng1 (aCons (eVar 2) aNil)) (gNm 4) (sApp 3 (eCall 3 f__law_letter (aCons (eVar 0) (aCons (eVar 1) (aCons (eC (.int 2)) aNil)))))) (bFreeze 3 (sRet (eCa bTuple (aCons (eVar 3) aNil))))))
def f__law_word : List D → T D := runB 5 m__law_word
abbrev s__law_worth : Stmt := topR 67
theorem sc__law_worth : FnScope ["_law_letter_here", "_law_row", "_law_found", "_law_power", "_law_number_here", "_law_turn"] ["_law_letter_here", "_law_row"] (defScope s__law_worth) := ⟨rfl, rfl, rfl, by decide +kernel, rfl, by decide +kernel, by decide +kernel⟩
def m__law_worth : Rho → T Out := (bSeq (sSet 2 (eTup (aCons (eC (.int 1)) (aCons (eC (.int 1)) aNil)))) (bSeq (sFor (iRg zipM (aCons (eVar 0) (aCons (eVar 1) aNil))) (gTp 2 (gsCons (gNm 3) (gsCons (gNm 4) gsNil))) (sFor (iRg rng1 (aCons (eVar 3) aNil)) (gNm 5) (sSet 2 (eCall 2 f__law_times (aCons (eVar 2) (aCons (eVar 4) aNil)))))) (sRet (eVar 2))))
def f__law_worth : List D → T D := runB 6 m__law_worth
abbrev s__law_choices : Stmt := topR 68
theorem sc__law_choices : FnScope ["_law_below", "_law_many", "_law_found", "_law_turn", "_law_longer", "_law_one", "_law_at"] ["_law_below", "_law_many"] (defScope s__law_choices) := ⟨rfl, rfl, rfl, by decide +kernel, rfl, by decide +kernel, by decide +kernel⟩
def m__law_choices : Rho → T Out := (bSeq (sOwn 2 (lLst (aCons (eL (lLst aNil)) aNil))) (bFreeze 2 (bSeq (sFor (iRg rng1 (aCons (eVar 1) aNil)) (gNm 3) (bSeq (sOwn 4 (lLst aNil)) (bSeq (sFor (iLst (eVar 2)) (gNm 5) (sExt 4 (lComp [6] (iRg rng2 (aCons (eIf (eTest (eBin opNeF (eVar 5) (eL (lLst aNil)))) (eBin opAdd (eBin ixD (eVar 5) (eUn uNeg (eC (.int 1)))) (eC (.int 1))) (eC (.int 0))) (aCons (eVar 0) aNil))) (gNm 6) yesT (eBin opAdd (eVar 5) (eL (lLst (aCons (eVar 6) aNil))))))) (bFreeze 4 (sSet 2 (eVar 4)))))) (sRet (eVar 2)))))
def f__law_choices : List D → T D := runB 7 m__law_choices
abbrev s__law_sum : Stmt := topR 69
theorem sc__law_sum : FnScope ["_law_rows_here", "_law_word_here", "_law_total", "_law_choice", "_law_part", "_law_at", "_law_letter_here"] ["_law_rows_here", "_law_word_here"] (defScope s__law_sum) := ⟨rfl, rfl, rfl, by decide +kernel, rfl, by decide +kernel, by decide +kernel⟩
def m__law_sum : Rho → T Out := (bSeq (sSet 2 (eTup (aCons (eC (.int 0)) (aCons (eC (.int 1)) aNil)))) (bSeq (sFor (iLst (eCall 2 f__law_choices (aCons (eCa bLen (aCons (eVar 0) aNil)) (aCons (eCa bLen (aCons (eVar 1) aNil)) aNil)))) (gNm 3) (bSeq (sSet 4 (eTup (aCons (eC (.int 1)) (aCons (eC (.int 1)) aNil)))) (bSeq (sFor (iRg zipY (aCons (eVar 3) (aCons (eVar 1) aNil))) (gTp 2 (gsCons (gNm 5) (gsCons (gNm 6) gsNil))) (sSet 4 (eCall 2 f__law_times (aCons (eVar 4) (aCons (eCall 2 f__law_worth (aCons (eVar 6) (aCons (eBin ixD (eVar 0) (eVar 5)) aNil))) aNil))))) (sSet 2 (eCall 2 f__law_plus (aCons (eVar 2) (aCons (eVar 4) aNil))))))) (sRet (eVar 2))))
def f__law_sum : List D → T D := runB 7 m__law_sum
abbrev s__law_one_right : Stmt := topR 70
theorem sc__law_one_right : FnScope ["_law_pot_here", "_law_columns", "_law_rows_here", "_law_word_here", "_law_whole", "_law_due", "_law_told", "_law_others", "_law_table_here", "_law_many", "_law_ahead", "_law_behind", "_law_more", "_law_total", "_law_near", "_law_far", "_law_at"] ["_law_pot_here", "_law_columns", "_law_rows_here", "_law_word_here"] (defScope s__law_one_right) := ⟨rfl, rfl, rfl, by decide +kernel, rfl, by decide +kernel, by decide +kernel⟩
def m__law_one_right : Rho → T Out := (bSeq (sPar 8 9 (eCall 3 f__law_table (aCons (eVar 0) (aCons (eVar 1) (aCons (eVar 2) aNil)))) (eCa bLen (aCons (eVar 2) aNil))) (bSeq (sSet 4 (eCall 1 f__law_ratio (aCons (eCall 2 f__law_sum (aCons (eVar 2) (aCons (eVar 3) aNil))) aNil))) (bSeq (sIf (tOr' (eTest (eBin (opOr (opNeS eRat) opNeF (fun x _ => isBig x)) (eCall 2 f_word_sum (aCons (eVar 8) (aCons (eVar 3) aNil))) (eVar 4))) (eTest (eBin (opOr (opNeS eRat) opNeF (fun x _ => isBig x)) (eCallK 2 [1, 0] f_word_sum (aCons (eVar 3) (aCons (eVar 8) aNil))) (eVar 4)))) (sRet (eC (.bl false))) bNil) (bSeq (sParL 10 11 (lCallF 2 f_sums_ahead (aCons (eVar 8) (aCons (eVar 3) aNil))) (eL (lCallKF 2 [1, 0] f_sums_behind (aCons (eVar 3) (aCons (eVar 8) aNil))))) (bSeq (sIf (eTest (ePeek (opOr (opNeS eRat) opNeF (fun x _ => isBig x)) 10 (eL (lComp [16] (iRg rng1 (aCons (eBin opAdd (eVar 9) (eC (.int 1))) aNil)) (gNm 16) yesT (eCall 1 f__law_ratio (aCons (eCall 2 f__law_sum (aCons (eSl (eVar 2) oNo (oPart (eVar 16))) (aCons (eVar 3) aNil))) aNil)))))) (sRet (eC (.bl false))) bNil) (bSeq (sIf (eTest (eBin (opOr (opNeS eRat) opNeF (fun x _ => isBig x)) (eVar 11) (eL (lComp [16] (iRg rng1 (aCons (eBin opAdd (eVar 9) (eC (.int 1))) aNil)) (gNm 16) yesT (eCall 1 f__law_ratio (aCons (eCall 2 f__law_sum (aCons (eSl (eVar 2) (oPart (eVar 16)) oNo) (aCons (eVar 3) aNil))) aNil)))))) (sRet (eC (.bl false))) bNil) (bSeq (sApp 10 (eC .non)) (bSeq (sOwn 5 (lComp [16] (iRg rng1 (aCons (eBin opAdd (eCa bLen (aCons (eVar 3) aNil)) (eC (.int 1))) aNil)) (gNm 16) yesT (eTup (aCons (eSl (eVar 3) oNo (oPart (eVar 16))) (aCons (eSl (eVar 3) (oPart (eVar 16)) oNo) aNil))))) (bSeq (sOwn 6 (lCallF 2 f_cuts (aCons (eVar 1) (aCons (eVar 3) aNil)))) (bFreeze 5 (bSeq (sIf (tOr' (eTest (ePeek (opOr (opNeS eRat) opNeF (fun x _ => isBig x)) 6 (eVar 5))) (tOr' (eTest (eBin (opOr (opNeS eRat) opNeF (fun x _ => isBig x)) (eCall 2 f_turned_word (aCons (eVar 1) (aCons (eVar 3) aNil))) (eRevT (eVar 3)))) (eTest (eBin (opOr (opNeS eRat) opNeF (fun x _ => isBig x)) (eCall 2 f_word_sum (aCons (eCall 1 f_turned (aCons (eVar 8) aNil)) (aCons (eRevT (eVar 3)) aNil))) (eVar 4))))) (sRet (eC (.bl false))) bNil) (bSeq (sApp 6 (eC .non)) (bSeq (sSet 7 (eCall 3 f__law_rows (aCons (eVar 0) (aCons (eVar 1) (aCons (eCall 2 f__law_draw (aCons (eVar 0) (aCons (eC (.int 3)) aNil))) aNil))))) (bSeq (sPar 12 13 (eCall 3 f__law_table (aCons (eVar 0) (aCons (eVar 1) (aCons (eVar 7) aNil)))) (eTup (aCons (eC (.int 0)) (aCons (eC (.int 1)) aNil)))) (bSeq (sFor (iLst (eVar 5)) (gTp 2 (gsCons (gNm 14) (gsCons (gNm 15) gsNil))) (sSet 13 (eCall 2 f__law_plus (aCons (eVar 13) (aCons (eCall 2 f__law_times (aCons (eCall 2 f__law_sum (aCons (eVar 2) (aCons (eVar 14) aNil))) (aCons (eCall 2 f__law_sum (aCons (eVar 7) (aCons (eVar 15) aNil))) aNil))) aNil))))) (bSeq (sIf (eTest (eBin (opOr (opNeS eRat) opNeF (fun x _ => isBig x)) (eCall 2 f_word_sum (aCons (eCall 2 f_joined (aCons (eVar 8) (aCons (eVar 12) aNil))) (aCons (eVar 3) aNil))) (eCall 1 f__law_ratio (aCons (eVar 13) aNil)))) (sRet (eC (.bl false))) bNil) (sRet (eAnd (eBin (opOr (opEqS eRat) opEqF (fun x _ => isBig x)) (eL (lCallKF 2 [1, 0] f_cuts (aCons (eVar 3) (aCons (eVar 1) aNil)))) (eVar 5)) (eBin (opOr (opEqS eRat) opEqF (fun x _ => isBig x)) (eCa bLen (aCons (eL (lCallF 2 f_sums_ahead (aCons (eVar 8) (aCons (eVar 3) aNil)))) aNil)) (eBin opAdd (eVar 9) (eC (.int 1))))))))))))))))))))))
def f__law_one_right : List D → T D := runB 17 m__law_one_right
abbrev s__law_right : Stmt := topR 71
theorem sc__law_right : FnScope ["_law_pot_here", "_law_columns", "_law_rows_here", "_law_word_here", "_law_alike", "_law_many"] ["_law_pot_here"] (defScope s__law_right) := ⟨rfl, rfl, rfl, by decide +kernel, rfl, by decide +kernel, by decide +kernel⟩
def m__law_right : Rho → T Out := (bSeq (sSet 1 (eCall 2 f__law_draw (aCons (eVar 0) (aCons (eC (.int 3)) aNil)))) (bSeq (sPar 2 3 (eCall 3 f__law_rows (aCons (eVar 0) (aCons (eVar 1) (aCons (eCall 2 f__law_draw (aCons (eVar 0) (aCons (eC (.int 6)) aNil))) aNil)))) (eCall 3 f__law_word (aCons (eVar 0) (aCons (eVar 1) (aCons (eCall 2 f__law_draw (aCons (eVar 0) (aCons (eC (.int 5)) aNil))) aNil))))) (bSeq (sIf (tNot' (eTest (eCall 4 f__law_one_right (aCons (eVar 0) (aCons (eVar 1) (aCons (eVar 2) (aCons (eVar 3) aNil))))))) (sRet (eC (.bl false))) bNil) (bSeq (sPar 4 5 (eL (lRep (eL (lLst (aCons (eIf (eTest (eBin opNeF (eVar 2) (eL (lLst aNil)))) (eBin ixD (eVar 2) (eC (.int 0))) (eL (lRep (eL (lLst (aCons (eTup (aCons (eC (.int 2)) (aCons (eC (.int 1)) aNil))) aNil))) (eVar 1)))) aNil))) (eC (.int 4)))) (eCall 2 f__law_draw (aCons (eVar 0) (aCons (eC (.int 4)) aNil)))) (bSeq (sIf (tNot' (eTest (eCall 4 f__law_one_right (aCons (eVar 0) (aCons (eVar 1) (aCons (eVar 4) (aCons (eBin opMulT (eTup (aCons (eBin opMulT (eTup (aCons (eC (.int 0)) aNil)) (eVar 1)) aNil)) (eVar 5)) aNil))))))) (sRet (eC (.bl false))) bNil) (sRet (eBin (opOr (opEqS eRat) opEqF (fun x _ => isBig x)) (eCall 2 f_word_sum (aCons (eCall 3 f__law_table (aCons (eVar 0) (aCons (eVar 1) (aCons (eVar 4) aNil)))) (aCons (eBin opMulT (eTup (aCons (eBin opMulT (eTup (aCons (eC (.int 0)) aNil)) (eVar 1)) aNil)) (eC (.int 4))) aNil))) (eMake "Ratio" 1 [.int 1] f_Ratio_init (aCons (eC (.int 1)) aNil)))))))))
def f__law_right : List D → T D := runB 6 m__law_right
/-- what stands around -/
structure Wd0 (P : Program) (w : World) (K : PySem.W.Frag) (mg : Str → Option Value) (base : Heap) : Prop where
  mk1 : PmC P w K mg base "Ratio" 2 1 [.int 1] f_Ratio_init
  mk2 : PmC P w K mg base "Ratio" 2 2 [] f_Ratio_init
  kn : KnownC K ["Ratio", "Table"]
  ic_Ratio : IcP K mg "Ratio"
  ic_Table : IcP K mg "Table"
  df_Ratio : DfP K ["Ratio", "Table"] "Ratio"
  df_Table : DfP K ["Ratio", "Table"] "Table"
  at_Table_columns : AtP K "Table" "_columns"
  at_Table_rows : AtP K "Table" "_rows"
  p_top : PmP P w K mg base "Ratio" "top" 1 f_Rtop
  p_bottom : PmP P w K mg base "Ratio" "bottom" 1 f_Rbottom
  add : PmO P w K mg base "Ratio" .Add 5 (f_Radd' f_tb)
  radd : PmB P w K mg base "Ratio" .Add 6 (f_Rback (f_Radd' f_tb))
  mul : PmO P w K mg base "Ratio" .Mult 5 (f_Rmul f_tb)
  rmul : PmB P w K mg base "Ratio" .Mult 6 (f_Rback (f_Rmul f_tb))
  tx : TxP P w K mg base 1 rRat
  sm : SmP P w K mg base 1 eRat
  z_abs : mg "abs" = none
  z_all : mg "all" = none
  z_enumerate : mg "enumerate" = none
  z_int : mg "int" = none
  z_isinstance : mg "isinstance" = none
  z_len : mg "len" = none
  z_list : mg "list" = none
  z_range : mg "range" = none
  z_tuple : mg "tuple" = none
  z_zip : mg "zip" = none
  c_MOST_COLUMNS : ∃ t, mg "MOST_COLUMNS" = some (.int 3 t)
  c_MOST_LETTERS : ∃ t, mg "MOST_LETTERS" = some (.int 8 t)
  c_MOST_POWER : ∃ t, mg "MOST_POWER" = some (.int 8 t)
  c_MOST_ROWS : ∃ t, mg "MOST_ROWS" = some (.int 40 t)
/-- .. and the classes -/
structure Wd (P : Program) (w : World) (K : PySem.W.Frag) (mg : Str → Option Value) (base : Heap) : Prop extends Wd0 P w K mg base where
  mkTable : PmC P w K mg base "Table" 6 2 [] f_Table_init
  p_columns : PmP P w K mg base "Table" "columns" 1 f_Table_columns
  p_height : PmP P w K mg base "Table" "height" 1 f_Table_height
  m_rows : PmM P w K mg base "Table" "rows" 2 0 ["self"] (asD f_Table_rows)
section
variable {P : Program} {w : World} {K : PySem.W.Frag} {mg : Str → Option Value} {base : Heap} {a_f : Addr} {d_f : FuncData}
theorem g_is_count (F : Fun K "is_count" "is_count" s_is_count a_f d_f) (W : Wd0 P w K mg base) (p_is_integer : Pm P w K mg base "is_integer" 1 1 ["value"] f_is_integer) : FnOk P w K mg base CX0 2 a_f d_f ["value"] (spD K P w 1 f_is_count) := by
  have nd := sc_is_count.nd
  refine fn_ok (n := 1) (p := 1) (m := m_is_count) (k := 1) F sc_is_count rfl rfl rfl (fun cdv A outer s H E hr => ?_)
  exact (b_one (ss_ret (s_and (s_callP p_is_integer (hr.mono (by decide)) (sa_cons (sv 0) sa_nil)) (s_one (s_cmp os_ge (sv 0) s_int (nomark _))))))
theorem g_is_count_to (F : Fun K "is_count_to" "is_count_to" s_is_count_to a_f d_f) (W : Wd0 P w K mg base) (p_is_count : Pm P w K mg base "is_count" 2 1 ["value"] f_is_count) : FnOk P w K mg base CX0 3 a_f d_f ["value", "most"] (spD K P w 2 f_is_count_to) := by
  have nd := sc_is_count_to.nd
  refine fn_ok (n := 2) (p := 2) (m := m_is_count_to) (k := 2) F sc_is_count_to rfl rfl rfl (fun cdv A outer s H E hr => ?_)
  exact (b_one (ss_ret (s_and (s_callP p_is_count (hr.mono (by decide)) (sa_cons (sv 0) sa_nil)) (s_one (s_cmp os_le (sv 0) (sv 1) (nomark _))))))
theorem g_is_list (F : Fun K "is_list" "is_list" s_is_list a_f d_f) (W : Wd0 P w K mg base)  : FnOk P w K mg base CX0 1 a_f d_f ["value"] (spD K P w 1 f_is_list) := by
  have nd := sc_is_list.nd
  refine fn_ok (n := 1) (p := 1) (m := m_is_list) (k := 0) F sc_is_list rfl rfl rfl (fun cdv A outer s H E hr => ?_)
  exact (b_one (ss_ret (s_isinst2 ["Ratio", "Table"] (k1 := .list) (k2 := .tuple) W.kn W.z_isinstance W.z_list W.z_tuple (by decide +kernel) (by decide +kernel) (sv 0))))
theorem g_need_columns (F : Fun K "need_columns" "need_columns" s_need_columns a_f d_f) (W : Wd0 P w K mg base) (p_is_count_to : Pm P w K mg base "is_count_to" 3 2 ["value", "most"] f_is_count_to) : FnOk P w K mg base CX0 4 a_f d_f ["columns"] (spD K P w 1 f_need_columns) := by
  have nd := sc_need_columns.nd
  refine fn_ok (n := 1) (p := 1) (m := m_need_columns) (k := 3) F sc_need_columns rfl rfl rfl (fun cdv A outer s H E hr => ?_)
  exact (b_one (ss_if (st_not (st_val (s_callP p_is_count_to (hr.mono (by decide)) (sa_cons (sv 0) (sa_cons (s_globI W.c_MOST_COLUMNS) sa_nil))))) (b_one ss_fail) b_nil))
theorem g_as_ratio (F : Fun K "as_ratio" "as_ratio" s_as_ratio a_f d_f) (W : Wd0 P w K mg base)  : FnOk P w K mg base CX0 4 a_f d_f ["number"] (spD K P w 1 f_as_ratio) := by
  have nd := sc_as_ratio.nd
  refine fn_ok (n := 1) (p := 1) (m := m_as_ratio) (k := 3) F sc_as_ratio rfl rfl rfl (fun cdv A outer s H E hr => ?_)
  exact (b_cons (ss_if (st_val (s_isinstG ["Ratio", "Table"] W.kn W.ic_Ratio W.df_Ratio W.z_isinstance (sv 0))) (b_one (ss_ret (sv 0))) b_nil) (b_one (ss_ret (s_makeP W.mk1 (hr.mono (by decide)) (sa_cons (sv 0) sa_nil)))))
theorem g_are_numbers (F : Fun K "are_numbers" "are_numbers" s_are_numbers a_f d_f) (W : Wd0 P w K mg base) (p_is_list : Pm P w K mg base "is_list" 1 1 ["value"] f_is_list) (p_is_number : Pm P w K mg base "is_number" 2 1 ["value"] f_is_number) : FnOk P w K mg base CX0 3 a_f d_f ["value", "many"] (spD K P w 2 f_are_numbers) := by
  have nd := sc_are_numbers.nd
  refine fn_ok (n := 3) (p := 2) (m := m_are_numbers) (k := 2) F sc_are_numbers rfl rfl rfl (fun cdv A outer s H E hr => ?_)
  exact (b_one (ss_ret (s_and (s_callP p_is_list (hr.mono (by decide)) (sa_cons (sv 0) sa_nil)) (s_and (s_cmp (os_eqF hr.units) (s_callB cs_len W.z_len (by decide +kernel) (sa_cons (sv 0) sa_nil)) (sv 1) (nomark _)) (s_one (s_callB (cs_all rfl) W.z_all (by decide +kernel) (sa_cons (s_ofL (sl_comp [("number", 2)] rfl rfl nd (blkOk_by (N := ["value", "many", "number"]) (sc := defScope s_are_numbers) (by decide +kernel)) (si_sq 0) (fun _ _ _ _ _ => (gw_name nd (by decide))) (fun _ _ _ _ _ => ts_nil) (fun _ _ _ _ _ => (s_callP p_is_number (hr.mono (by decide)) (sa_cons (sv 2) sa_nil))))) sa_nil)))))))
theorem g_are_rows (F : Fun K "are_rows" "are_rows" s_are_rows a_f d_f) (W : Wd0 P w K mg base) (p_are_numbers : Pm P w K mg base "are_numbers" 3 2 ["value", "many"] f_are_numbers) (p_is_list : Pm P w K mg base "is_list" 1 1 ["value"] f_is_list) : FnOk P w K mg base CX0 4 a_f d_f ["columns", "value"] (spD K P w 2 f_are_rows) := by
  have nd := sc_are_rows.nd
  refine fn_ok (n := 3) (p := 2) (m := m_are_rows) (k := 3) F sc_are_rows rfl rfl rfl (fun cdv A outer s H E hr => ?_)
  exact (b_cons (ss_if (st_w (sw_or (st_not (st_val (s_callP p_is_list (hr.mono (by decide)) (sa_cons (sv 1) sa_nil)))) (sw_or1 (st_cmp os_gt (s_callB cs_len W.z_len (by decide +kernel) (sa_cons (sv 1) sa_nil)) (s_globI W.c_MOST_ROWS) (nomark _))))) (b_one (ss_ret s_bl)) b_nil) (b_one (ss_ret (s_callB (cs_all rfl) W.z_all (by decide +kernel) (sa_cons (s_ofL (sl_comp [("row", 2)] rfl rfl nd (blkOk_by (N := ["columns", "value", "row"]) (sc := defScope s_are_rows) (by decide +kernel)) (si_sq 1) (fun _ _ _ _ _ => (gw_name nd (by decide))) (fun _ _ _ _ _ => ts_nil) (fun _ _ _ _ _ => (s_callP p_are_numbers (hr.mono (by decide)) (sa_cons (sv 2) (sa_cons (sv 0) sa_nil)))))) sa_nil)))))
theorem g_Table_init {C : Addr} (F : FunD K "__init__" "Table.__init__" (defArgs s_Table_init) (defBody s_Table_init) (defScope s_Table_init) [] [] a_f d_f) (cl : Cls K C) (at_ : ClsAt K "Table" C) (W : Wd0 P w K mg base) (p_are_rows : Pm P w K mg base "are_rows" 4 2 ["columns", "value"] f_are_rows) (p_as_ratio : Pm P w K mg base "as_ratio" 4 1 ["number"] f_as_ratio) (p_need_columns : Pm P w K mg base "need_columns" 4 1 ["columns"] f_need_columns) : FnOk P w K mg base CX0 5 a_f d_f ["self", "columns", "rows"] (spI K P w "Table" 2 f_Table_init) := by
  have nd := sc_Table_init.nd
  refine init_ok (n := 4) (p := 2) (ki := m_Table_init) (k := 4) F sc_Table_init rfl rfl cl at_ (fun cdv A outer s H E hr => ?_)
  exact (in_chk (s_callP p_need_columns (hr.mono (by decide)) (sa_cons (sv 1) sa_nil)) (in_if (st_not (st_val (s_callP p_are_rows (hr.mono (by decide)) (sa_cons (sv 1) (sa_cons (sv 2) sa_nil))))) (in_fld (sv 1) (in_fld (s_ofL (sl_comp [("row", 3)] rfl rfl nd (blkOk_by (N := ["self", "columns", "rows", "row", "number"]) (sc := defScope s_Table_init) (by decide +kernel)) (si_sq 2) (fun _ _ _ _ _ => (gw_name nd (by decide))) (fun _ _ _ _ _ => ts_nil) (fun _ _ _ _ _ => (s_ofL (sl_comp [("number", 4)] rfl rfl nd (blkOk_by (by with_unfolding_all rfl)) (si_sq 3) (fun _ _ _ _ _ => (gw_name nd (by decide))) (fun _ _ _ _ _ => ts_nil) (fun _ _ _ _ _ => (s_callP p_as_ratio (hr.mono (by decide)) (sa_cons (sv 4) sa_nil)))))))) in_nil W.at_Table_rows.no) W.at_Table_columns.no)))
theorem g_Table_columns (F : Fun K "columns" "Table.columns" s_Table_columns a_f d_f) (W : Wd0 P w K mg base)  : FnOk P w K mg base CX0 1 a_f d_f ["self"] (spD K P w 1 f_Table_columns) := by
  have nd := sc_Table_columns.nd
  refine fn_ok (n := 1) (p := 1) (m := m_Table_columns) (k := 0) F sc_Table_columns rfl rfl rfl (fun cdv A outer s H E hr => ?_)
  exact (b_one (ss_ret (s_attrP W.at_Table_columns (sv 0))))
theorem g_Table_height (F : Fun K "height" "Table.height" s_Table_height a_f d_f) (W : Wd0 P w K mg base)  : FnOk P w K mg base CX0 1 a_f d_f ["self"] (spD K P w 1 f_Table_height) := by
  have nd := sc_Table_height.nd
  refine fn_ok (n := 1) (p := 1) (m := m_Table_height) (k := 0) F sc_Table_height rfl rfl rfl (fun cdv A outer s H E hr => ?_)
  exact (b_one (ss_ret (s_callB cs_len W.z_len (by decide +kernel) (sa_cons (s_attrP W.at_Table_rows (sv 0)) sa_nil))))
theorem g_Table_rows (F : Fun K "rows" "Table.rows" s_Table_rows a_f d_f) (W : Wd0 P w K mg base)  : FnOk P w K mg base CX0 1 a_f d_f ["self"] (spR K P w 1 f_Table_rows) := by
  have nd := sc_Table_rows.nd
  refine fnL_ok (n := 2) (p := 1) (ml := m_Table_rows) (k := 0) F sc_Table_rows rfl rfl rfl (fun cdv A outer s H E hr => ?_)
  exact (bl_ret (sl_comp [("row", 1)] rfl rfl nd (blkOk_by (N := ["self", "row"]) (sc := defScope s_Table_rows) (by decide +kernel)) (si_list (s_attrP W.at_Table_rows (sv 0))) (fun _ _ _ _ _ => (gw_name nd (by decide))) (fun _ _ _ _ _ => ts_nil) (fun _ _ _ _ _ => (s_ofL (sl_callTy cs_list W.z_list (by decide +kernel) (sa_cons (sv 1) sa_nil))))))
theorem g_Table_eq (F : Fun K "__eq__" "Table.__eq__" s_Table_eq a_f d_f) (W : Wd0 P w K mg base)  : FnOk P w K mg base CX0 1 a_f d_f ["self", "other"] (spD K P w 2 f_Table_eq) := by
  have nd := sc_Table_eq.nd
  refine fn_ok (n := 2) (p := 2) (m := m_Table_eq) (k := 0) F sc_Table_eq rfl rfl rfl (fun cdv A outer s H E hr => ?_)
  exact (b_one (ss_ret (s_and (s_isinstG ["Ratio", "Table"] W.kn W.ic_Table W.df_Table W.z_isinstance (sv 1)) (s_and (s_cmp (os_eqF hr.units) (s_attrP W.at_Table_columns (sv 0)) (s_attrP W.at_Table_columns (sv 1)) (nomark _)) (s_one (s_cmp (os_eqF hr.units) (s_attrP W.at_Table_rows (sv 0)) (s_attrP W.at_Table_rows (sv 1)) (nomark _)))))))
theorem g_need_like_columns (F : Fun K "need_like_columns" "need_like_columns" s_need_like_columns a_f d_f) (W : Wd P w K mg base)  : FnOk P w K mg base CX0 3 a_f d_f ["first", "second"] (spD K P w 2 f_need_like_columns) := by
  have nd := sc_need_like_columns.nd
  refine fn_ok (n := 2) (p := 2) (m := m_need_like_columns) (k := 2) F sc_need_like_columns rfl rfl rfl (fun cdv A outer s H E hr => ?_)
  exact (b_one (ss_if (st_cmp (os_neF hr.units) (s_propP W.p_columns (hr.mono (by decide)) (sv 0)) (s_propP W.p_columns (hr.mono (by decide)) (sv 1)) (nomark _)) (b_one ss_fail) b_nil))
theorem g_need_table (F : Fun K "need_table" "need_table" s_need_table a_f d_f) (W : Wd P w K mg base)  : FnOk P w K mg base CX0 1 a_f d_f ["table"] (spD K P w 1 f_need_table) := by
  have nd := sc_need_table.nd
  refine fn_ok (n := 1) (p := 1) (m := m_need_table) (k := 0) F sc_need_table rfl rfl rfl (fun cdv A outer s H E hr => ?_)
  exact (b_one (ss_if (st_not (st_val (s_isinstG ["Ratio", "Table"] W.kn W.ic_Table W.df_Table W.z_isinstance (sv 0)))) (b_one ss_fail) b_nil))
theorem g_need_place_for_rows (F : Fun K "need_place_for_rows" "need_place_for_rows" s_need_place_for_rows a_f d_f) (W : Wd P w K mg base)  : FnOk P w K mg base CX0 1 a_f d_f ["many"] (spD K P w 1 f_need_place_for_rows) := by
  have nd := sc_need_place_for_rows.nd
  refine fn_ok (n := 1) (p := 1) (m := m_need_place_for_rows) (k := 0) F sc_need_place_for_rows rfl rfl rfl (fun cdv A outer s H E hr => ?_)
  exact (b_one (ss_if (st_cmp os_gt (sv 0) (s_globI W.c_MOST_ROWS) (nomark _)) (b_one ss_fail) b_nil))
theorem g_joined (F : Fun K "joined" "joined" s_joined a_f d_f) (W : Wd P w K mg base) (p_need_like_columns : Pm P w K mg base "need_like_columns" 3 2 ["first", "second"] f_need_like_columns) (p_need_place_for_rows : Pm P w K mg base "need_place_for_rows" 1 1 ["many"] f_need_place_for_rows) (p_need_table : Pm P w K mg base "need_table" 1 1 ["table"] f_need_table) : FnOk P w K mg base CX0 8 a_f d_f ["table", "other"] (spD K P w 2 f_joined) := by
  have nd := sc_joined.nd
  refine fn_ok (n := 2) (p := 2) (m := m_joined) (k := 7) F sc_joined rfl rfl rfl (fun cdv A outer s H E hr => ?_)
  exact (b_cons (ss_expr (s_callP p_need_table (hr.mono (by decide)) (sa_cons (sv 0) sa_nil))) (b_cons (ss_expr (s_callP p_need_table (hr.mono (by decide)) (sa_cons (sv 1) sa_nil))) (b_cons (ss_expr (s_callP p_need_like_columns (hr.mono (by decide)) (sa_cons (sv 0) (sa_cons (sv 1) sa_nil)))) (b_cons (ss_expr (s_callP p_need_place_for_rows (hr.mono (by decide)) (sa_cons (s_bin os_add (s_propP W.p_height (hr.mono (by decide)) (sv 0)) (s_propP W.p_height (hr.mono (by decide)) (sv 1))) sa_nil))) (b_one (ss_ret (s_makeP W.mkTable (hr.mono (by decide)) (sa_cons (s_propP W.p_columns (hr.mono (by decide)) (sv 0)) (sa_cons (s_bin os_add (s_methP0 W.m_rows (hr.mono (by decide)) (sv 0)) (s_methP0 W.m_rows (hr.mono (by decide)) (sv 1))) sa_nil)))))))))
theorem g_turned (F : Fun K "turned" "turned" s_turned a_f d_f) (W : Wd P w K mg base) (p_need_table : Pm P w K mg base "need_table" 1 1 ["table"] f_need_table) : FnOk P w K mg base CX0 8 a_f d_f ["table"] (spD K P w 1 f_turned) := by
  have nd := sc_turned.nd
  refine fn_ok (n := 1) (p := 1) (m := m_turned) (k := 7) F sc_turned rfl rfl rfl (fun cdv A outer s H E hr => ?_)
  exact (b_cons (ss_expr (s_callP p_need_table (hr.mono (by decide)) (sa_cons (sv 0) sa_nil))) (b_one (ss_ret (s_makeP W.mkTable (hr.mono (by decide)) (sa_cons (s_propP W.p_columns (hr.mono (by decide)) (sv 0)) (sa_cons (s_ofL (sl_rev (s_methP0 W.m_rows (hr.mono (by decide)) (sv 0)))) sa_nil))))))
theorem g_is_letter_to (F : Fun K "is_letter_to" "is_letter_to" s_is_letter_to a_f d_f) (W : Wd P w K mg base) (p_is_count_to : Pm P w K mg base "is_count_to" 3 2 ["value", "most"] f_is_count_to) : FnOk P w K mg base CX0 4 a_f d_f ["columns", "value", "most"] (spD K P w 3 f_is_letter_to) := by
  have nd := sc_is_letter_to.nd
  refine fn_ok (n := 4) (p := 3) (m := m_is_letter_to) (k := 3) F sc_is_letter_to rfl rfl rfl (fun cdv A outer s H E hr => ?_)
  exact (b_cons (ss_if (st_w (sw_or (st_not (st_val (s_isinstY ["Ratio", "Table"] (k := .tuple) W.kn W.z_isinstance W.z_tuple (by decide +kernel) (sv 1)))) (sw_or1 (st_cmp (os_neF hr.units) (s_callB cs_len W.z_len (by decide +kernel) (sa_cons (sv 1) sa_nil)) (sv 0) (nomark _))))) (b_one (ss_ret s_bl)) b_nil) (b_one (ss_ret (s_callB (cs_all rfl) W.z_all (by decide +kernel) (sa_cons (s_ofL (sl_comp [("power", 3)] rfl rfl nd (blkOk_by (N := ["columns", "value", "most", "power"]) (sc := defScope s_is_letter_to) (by decide +kernel)) (si_tup (sv 1)) (fun _ _ _ _ _ => (gw_name nd (by decide))) (fun _ _ _ _ _ => ts_nil) (fun _ _ _ _ _ => (s_callP p_is_count_to (hr.mono (by decide)) (sa_cons (sv 3) (sa_cons (sv 2) sa_nil)))))) sa_nil)))))
theorem g_is_word_to (F : Fun K "is_word_to" "is_word_to" s_is_word_to a_f d_f) (W : Wd P w K mg base) (p_is_letter_to : Pm P w K mg base "is_letter_to" 4 3 ["columns", "value", "most"] f_is_letter_to) : FnOk P w K mg base CX0 5 a_f d_f ["columns", "value", "most"] (spD K P w 3 f_is_word_to) := by
  have nd := sc_is_word_to.nd
  refine fn_ok (n := 4) (p := 3) (m := m_is_word_to) (k := 4) F sc_is_word_to rfl rfl rfl (fun cdv A outer s H E hr => ?_)
  exact (b_cons (ss_if (st_w (sw_or (st_not (st_val (s_isinstY ["Ratio", "Table"] (k := .tuple) W.kn W.z_isinstance W.z_tuple (by decide +kernel) (sv 1)))) (sw_or1 (st_cmp os_gt (s_callB cs_len W.z_len (by decide +kernel) (sa_cons (sv 1) sa_nil)) (s_globI W.c_MOST_LETTERS) (nomark _))))) (b_one (ss_ret s_bl)) b_nil) (b_one (ss_ret (s_callB (cs_all rfl) W.z_all (by decide +kernel) (sa_cons (s_ofL (sl_comp [("letter", 3)] rfl rfl nd (blkOk_by (N := ["columns", "value", "most", "letter"]) (sc := defScope s_is_word_to) (by decide +kernel)) (si_tup (sv 1)) (fun _ _ _ _ _ => (gw_name nd (by decide))) (fun _ _ _ _ _ => ts_nil) (fun _ _ _ _ _ => (s_callP p_is_letter_to (hr.mono (by decide)) (sa_cons (sv 0) (sa_cons (sv 3) (sa_cons (sv 2) sa_nil))))))) sa_nil)))))
theorem g_is_word (F : Fun K "is_word" "is_word" s_is_word a_f d_f) (W : Wd P w K mg base) (p_is_word_to : Pm P w K mg base "is_word_to" 5 3 ["columns", "value", "most"] f_is_word_to) (p_need_columns : Pm P w K mg base "need_columns" 4 1 ["columns"] f_need_columns) : FnOk P w K mg base CX0 6 a_f d_f ["columns", "value"] (spD K P w 2 f_is_word) := by
  have nd := sc_is_word.nd
  refine fn_ok (n := 2) (p := 2) (m := m_is_word) (k := 5) F sc_is_word rfl rfl rfl (fun cdv A outer s H E hr => ?_)
  exact (b_cons (ss_expr (s_callP p_need_columns (hr.mono (by decide)) (sa_cons (sv 0) sa_nil))) (b_one (ss_ret (s_callP p_is_word_to (hr.mono (by decide)) (sa_cons (sv 0) (sa_cons (sv 1) (sa_cons (s_globI W.c_MOST_POWER) sa_nil)))))))
theorem g_need_word (F : Fun K "need_word" "need_word" s_need_word a_f d_f) (W : Wd P w K mg base) (p_is_word : Pm P w K mg base "is_word" 6 2 ["columns", "value"] f_is_word) : FnOk P w K mg base CX0 7 a_f d_f ["columns", "word"] (spD K P w 2 f_need_word) := by
  have nd := sc_need_word.nd
  refine fn_ok (n := 2) (p := 2) (m := m_need_word) (k := 6) F sc_need_word rfl rfl rfl (fun cdv A outer s H E hr => ?_)
  exact (b_one (ss_if (st_not (st_val (s_callP p_is_word (hr.mono (by decide)) (sa_cons (sv 0) (sa_cons (sv 1) sa_nil))))) (b_one ss_fail) b_nil))
theorem g_worth_at (F : Fun K "worth_at" "worth_at" s_worth_at a_f d_f) (W : Wd P w K mg base)  : FnOk P w K mg base CX0 4 a_f d_f ["letter", "row"] (spD K P w 2 f_worth_at) := by
  have nd := sc_worth_at.nd
  refine fn_ok (n := 7) (p := 2) (m := m_worth_at) (k := 3) F sc_worth_at rfl rfl rfl (fun cdv A outer s H E hr => ?_)
  exact (b_cons (ss_asg (s_tup (sa_cons s_int (sa_cons s_int sa_nil))) (g_tup rfl (gs_cons (g_name nd) (gs_cons (g_name nd) gs_nil)))) (b_cons (ss_for PassesOwn.never rfl (si_zipM W.z_zip (sa_cons (sv 0) (sa_cons (sv 1) sa_nil))) (g_tup rfl (gs_cons (g_name nd) (gs_cons (g_name nd) gs_nil))) (b_one (ss_for PassesOwn.never rfl (si_range1 W.z_range (sa_cons (sv 4) sa_nil)) (g_name nd) (b_cons (ss_set nd (s_bin os_mulG (sv 2) (s_propP W.p_top (hr.mono (by decide)) (sv 5)))) (b_one (ss_set nd (s_bin os_mulG (sv 3) (s_propP W.p_bottom (hr.mono (by decide)) (sv 5))))))))) (b_one (ss_ret (s_makeP W.mk2 (hr.mono (by decide)) (sa_cons (sv 2) (sa_cons (sv 3) sa_nil)))))))
theorem g_longer_sums (F : Fun K "longer_sums" "longer_sums" s_longer_sums a_f d_f) (W : Wd P w K mg base)  : FnOk P w K mg base CX0 7 a_f d_f ["sums", "worth"] (spR K P w 2 f_longer_sums) := by
  have nd := sc_longer_sums.nd
  refine fnL_ok (n := 5) (p := 2) (ml := m_longer_sums) (k := 6) F sc_longer_sums rfl rfl rfl (fun cdv A outer s H E hr => ?_)
  exact (bl_cons (ss_own nd (sl_lst (sa_cons (s_makeP W.mk1 (hr.mono (by decide)) (sa_cons s_int sa_nil)) sa_nil))) (bl_cons (ss_for PassesOwn.never rfl (si_enumL W.z_enumerate (sa_cons (sv 1) sa_nil)) (g_tup rfl (gs_cons (g_name nd) (gs_cons (g_name nd) gs_nil))) (b_one (ss_app (s_bin (os_anyP os_add W.add (hr.mono (by decide)) W.radd declines_add (hr.mono (by decide))) (s_ixOwn 2 (sv 3) (fun _ _ => rfl)) (s_bin (os_anyP os_mulT W.mul (hr.mono (by decide)) W.rmul declines_mul (hr.mono (by decide))) (s_ix (sv 0) (sv 3) (fun _ _ => rfl)) (sv 4)))))) (bl_retOwn 2)))
theorem g_sums_of (F : Fun K "sums_of" "sums_of" s_sums_of a_f d_f) (W : Wd P w K mg base) (p_longer_sums : PmR P w K mg base "longer_sums" 7 2 ["sums", "worth"] f_longer_sums) : FnOk P w K mg base CX0 8 a_f d_f ["worths", "height"] (spR K P w 2 f_sums_of) := by
  have nd := sc_sums_of.nd
  refine fnL_ok (n := 5) (p := 2) (ml := m_sums_of) (k := 7) F sc_sums_of rfl rfl rfl (fun cdv A outer s H E hr => ?_)
  exact (bl_cons (ss_ownLc (i := 2) [("_", 4)] rfl rfl nd (blkOk_by (N := ["worths", "height", "sums", "worth", "_"]) (sc := defScope s_sums_of) (by decide +kernel)) (si_range1 W.z_range (sa_cons (s_bin os_add (sv 1) s_int) sa_nil)) (fun _ _ _ _ _ => (gw_name nd (by decide))) (fun _ _ _ _ _ => ts_nil) (fun _ _ _ _ _ => (s_makeP W.mk1 (hr.mono (by decide)) (sa_cons s_int sa_nil))) (sw_true rfl rfl rfl (by decide +kernel))) (bl_cons (ss_for PassesOwn.never rfl (si_list (sv 0)) (g_name nd) (b_freeze 2 (b_one (ss_own nd (sl_callPR p_longer_sums (hr.mono (by decide)) (sa_cons (sv 2) (sa_cons (sv 3) sa_nil))))))) (bl_retOwn 2)))
theorem g_worths_at (F : Fun K "worths_at" "worths_at" s_worths_at a_f d_f) (W : Wd P w K mg base) (p_worth_at : Pm P w K mg base "worth_at" 4 2 ["letter", "row"] f_worth_at) : FnOk P w K mg base CX0 5 a_f d_f ["letter", "rows"] (spR K P w 2 f_worths_at) := by
  have nd := sc_worths_at.nd
  refine fnL_ok (n := 3) (p := 2) (ml := m_worths_at) (k := 4) F sc_worths_at rfl rfl rfl (fun cdv A outer s H E hr => ?_)
  exact (bl_ret (sl_comp [("row", 2)] rfl rfl nd (blkOk_by (N := ["letter", "rows", "row"]) (sc := defScope s_worths_at) (by decide +kernel)) (si_list (sv 1)) (fun _ _ _ _ _ => (gw_name nd (by decide))) (fun _ _ _ _ _ => ts_nil) (fun _ _ _ _ _ => (s_callP p_worth_at (hr.mono (by decide)) (sa_cons (sv 0) (sa_cons (sv 2) sa_nil))))))
theorem g_sums_ahead (F : Fun K "sums_ahead" "sums_ahead" s_sums_ahead a_f d_f) (W : Wd P w K mg base) (p_need_table : Pm P w K mg base "need_table" 1 1 ["table"] f_need_table) (p_need_word : Pm P w K mg base "need_word" 7 2 ["columns", "word"] f_need_word) (p_sums_of : PmR P w K mg base "sums_of" 8 2 ["worths", "height"] f_sums_of) (p_worths_at : PmR P w K mg base "worths_at" 5 2 ["letter", "rows"] f_worths_at) : FnOk P w K mg base CX0 9 a_f d_f ["table", "word"] (spR K P w 2 f_sums_ahead) := by
  have nd := sc_sums_ahead.nd
  refine fnL_ok (n := 4) (p := 2) (ml := m_sums_ahead) (k := 8) F sc_sums_ahead rfl rfl rfl (fun cdv A outer s H E hr => ?_)
  exact (bl_cons (ss_expr (s_callP p_need_table (hr.mono (by decide)) (sa_cons (sv 0) sa_nil))) (bl_cons (ss_expr (s_callP p_need_word (hr.mono (by decide)) (sa_cons (s_propP W.p_columns (hr.mono (by decide)) (sv 0)) (sa_cons (sv 1) sa_nil)))) (bl_cons (ss_set nd (s_methP0 W.m_rows (hr.mono (by decide)) (sv 0))) (bl_ret (sl_callPR p_sums_of (hr.mono (by decide)) (sa_cons (s_ofL (sl_comp [("letter", 3)] rfl rfl nd (blkOk_by (N := ["table", "word", "rows", "letter"]) (sc := defScope s_sums_ahead) (by decide +kernel)) (si_tup (sv 1)) (fun _ _ _ _ _ => (gw_name nd (by decide))) (fun _ _ _ _ _ => ts_nil) (fun _ _ _ _ _ => (s_ofL (sl_callPR p_worths_at (hr.mono (by decide)) (sa_cons (sv 3) (sa_cons (sv 2) sa_nil))))))) (sa_cons (s_propP W.p_height (hr.mono (by decide)) (sv 0)) sa_nil)))))))
theorem g_word_sum (F : Fun K "word_sum" "word_sum" s_word_sum a_f d_f) (W : Wd P w K mg base) (p_sums_ahead : PmR P w K mg base "sums_ahead" 9 2 ["table", "word"] f_sums_ahead) : FnOk P w K mg base CX0 10 a_f d_f ["table", "word"] (spD K P w 2 f_word_sum) := by
  have nd := sc_word_sum.nd
  refine fn_ok (n := 2) (p := 2) (m := m_word_sum) (k := 9) F sc_word_sum rfl rfl rfl (fun cdv A outer s H E hr => ?_)
  exact (b_one (ss_ret (s_ix (s_ofL (sl_callPR p_sums_ahead (hr.mono (by decide)) (sa_cons (sv 0) (sa_cons (sv 1) sa_nil)))) (s_neg s_int) (fun _ _ => rfl))))
theorem g_sums_behind (F : Fun K "sums_behind" "sums_behind" s_sums_behind a_f d_f) (W : Wd P w K mg base) (p_need_table : Pm P w K mg base "need_table" 1 1 ["table"] f_need_table) (p_need_word : Pm P w K mg base "need_word" 7 2 ["columns", "word"] f_need_word) (p_sums_of : PmR P w K mg base "sums_of" 8 2 ["worths", "height"] f_sums_of) (p_worths_at : PmR P w K mg base "worths_at" 5 2 ["letter", "rows"] f_worths_at) : FnOk P w K mg base CX0 9 a_f d_f ["table", "word"] (spR K P w 2 f_sums_behind) := by
  have nd := sc_sums_behind.nd
  refine fnL_ok (n := 4) (p := 2) (ml := m_sums_behind) (k := 8) F sc_sums_behind rfl rfl rfl (fun cdv A outer s H E hr => ?_)
  exact (bl_cons (ss_expr (s_callP p_need_table (hr.mono (by decide)) (sa_cons (sv 0) sa_nil))) (bl_cons (ss_expr (s_callP p_need_word (hr.mono (by decide)) (sa_cons (s_propP W.p_columns (hr.mono (by decide)) (sv 0)) (sa_cons (sv 1) sa_nil)))) (bl_cons (ss_set nd (s_ofL (sl_rev (s_methP0 W.m_rows (hr.mono (by decide)) (sv 0))))) (bl_ret (sl_rev (s_ofL (sl_callPR p_sums_of (hr.mono (by decide)) (sa_cons (s_ofL (sl_comp [("letter", 3)] rfl rfl nd (blkOk_by (N := ["table", "word", "rows", "letter"]) (sc := defScope s_sums_behind) (by decide +kernel)) (si_tup (s_revT (sv 1))) (fun _ _ _ _ _ => (gw_name nd (by decide))) (fun _ _ _ _ _ => ts_nil) (fun _ _ _ _ _ => (s_ofL (sl_callPR p_worths_at (hr.mono (by decide)) (sa_cons (sv 3) (sa_cons (sv 2) sa_nil))))))) (sa_cons (s_propP W.p_height (hr.mono (by decide)) (sv 0)) sa_nil)))))))))
theorem g_cuts (F : Fun K "cuts" "cuts" s_cuts a_f d_f) (W : Wd P w K mg base) (p_need_word : Pm P w K mg base "need_word" 7 2 ["columns", "word"] f_need_word) : FnOk P w K mg base CX0 8 a_f d_f ["columns", "word"] (spR K P w 2 f_cuts) := by
  have nd := sc_cuts.nd
  refine fnL_ok (n := 3) (p := 2) (ml := m_cuts) (k := 7) F sc_cuts rfl rfl rfl (fun cdv A outer s H E hr => ?_)
  exact (bl_cons (ss_expr (s_callP p_need_word (hr.mono (by decide)) (sa_cons (sv 0) (sa_cons (sv 1) sa_nil)))) (bl_ret (sl_comp [("at", 2)] rfl rfl nd (blkOk_by (N := ["columns", "word", "at"]) (sc := defScope s_cuts) (by decide +kernel)) (si_range1 W.z_range (sa_cons (s_bin os_add (s_callB cs_len W.z_len (by decide +kernel) (sa_cons (sv 1) sa_nil)) s_int) sa_nil)) (fun _ _ _ _ _ => (gw_name nd (by decide))) (fun _ _ _ _ _ => ts_nil) (fun _ _ _ _ _ => (s_tup (sa_cons (s_sl (sv 1) so_no (so_some (sv 2))) (sa_cons (s_sl (sv 1) (so_some (sv 2)) so_no) sa_nil)))))))
theorem g_turned_word (F : Fun K "turned_word" "turned_word" s_turned_word a_f d_f) (W : Wd P w K mg base) (p_need_word : Pm P w K mg base "need_word" 7 2 ["columns", "word"] f_need_word) : FnOk P w K mg base CX0 8 a_f d_f ["columns", "word"] (spD K P w 2 f_turned_word) := by
  have nd := sc_turned_word.nd
  refine fn_ok (n := 2) (p := 2) (m := m_turned_word) (k := 7) F sc_turned_word rfl rfl rfl (fun cdv A outer s H E hr => ?_)
  exact (b_cons (ss_expr (s_callP p_need_word (hr.mono (by decide)) (sa_cons (sv 0) (sa_cons (sv 1) sa_nil)))) (b_one (ss_ret (s_revT (sv 1)))))
theorem g__law_divisor (F : Fun K "_law_divisor" "_law_divisor" s__law_divisor a_f d_f) (W : Wd P w K mg base)  : FnOk P w K mg base CX0 1 a_f d_f ["_law_one", "_law_other"] (spD K P w 2 f__law_divisor) := by
  have nd := sc__law_divisor.nd
  refine fn_ok (n := 2) (p := 2) (m := m__law_divisor) (k := 0) F sc__law_divisor rfl rfl rfl (fun cdv A outer s H E hr => ?_)
  exact (b_cons (ss_while 20000 PassesOwn.never (st_cmp (os_neF hr.units) (sv 1) s_int (nomark _)) (b_one (ss_par rfl nd (sv 1) (s_bin os_modG (s_callTy cs_int W.z_int (by decide +kernel) (sa_cons (sv 0) sa_nil)) (sv 1))))) (b_one (ss_ret (s_callB cs_abs W.z_abs (by decide +kernel) (sa_cons (sv 0) sa_nil)))))
theorem g__law_low (F : Fun K "_law_low" "_law_low" s__law_low a_f d_f) (W : Wd P w K mg base) (p__law_divisor : Pm P w K mg base "_law_divisor" 1 2 ["_law_one", "_law_other"] f__law_divisor) : FnOk P w K mg base CX0 2 a_f d_f ["_law_top", "_law_bottom"] (spD K P w 2 f__law_low) := by
  have nd := sc__law_low.nd
  refine fn_ok (n := 3) (p := 2) (m := m__law_low) (k := 1) F sc__law_low rfl rfl rfl (fun cdv A outer s H E hr => ?_)
  exact (b_cons (ss_set nd (s_callP p__law_divisor (hr.mono (by decide)) (sa_cons (sv 0) (sa_cons (sv 1) sa_nil)))) (b_one (ss_ret (s_tup (sa_cons (s_bin os_fdivG (sv 0) (sv 2)) (sa_cons (s_bin os_fdivG (sv 1) (sv 2)) sa_nil))))))
theorem g__law_plus (F : Fun K "_law_plus" "_law_plus" s__law_plus a_f d_f) (W : Wd P w K mg base) (p__law_low : Pm P w K mg base "_law_low" 2 2 ["_law_top", "_law_bottom"] f__law_low) : FnOk P w K mg base CX0 3 a_f d_f ["_law_one", "_law_other"] (spD K P w 2 f__law_plus) := by
  have nd := sc__law_plus.nd
  refine fn_ok (n := 2) (p := 2) (m := m__law_plus) (k := 2) F sc__law_plus rfl rfl rfl (fun cdv A outer s H E hr => ?_)
  exact (b_one (ss_ret (s_callP p__law_low (hr.mono (by decide)) (sa_cons (s_bin os_add (s_bin os_mulG (s_ix (sv 0) s_int (fun _ _ => rfl)) (s_ix (sv 1) s_int (fun _ _ => rfl))) (s_bin os_mulG (s_ix (sv 1) s_int (fun _ _ => rfl)) (s_ix (sv 0) s_int (fun _ _ => rfl)))) (sa_cons (s_bin os_mulG (s_ix (sv 0) s_int (fun _ _ => rfl)) (s_ix (sv 1) s_int (fun _ _ => rfl))) sa_nil)))))
theorem g__law_times (F : Fun K "_law_times" "_law_times" s__law_times a_f d_f) (W : Wd P w K mg base) (p__law_low : Pm P w K mg base "_law_low" 2 2 ["_law_top", "_law_bottom"] f__law_low) : FnOk P w K mg base CX0 3 a_f d_f ["_law_one", "_law_other"] (spD K P w 2 f__law_times) := by
  have nd := sc__law_times.nd
  refine fn_ok (n := 2) (p := 2) (m := m__law_times) (k := 2) F sc__law_times rfl rfl rfl (fun cdv A outer s H E hr => ?_)
  exact (b_one (ss_ret (s_callP p__law_low (hr.mono (by decide)) (sa_cons (s_bin os_mulG (s_ix (sv 0) s_int (fun _ _ => rfl)) (s_ix (sv 1) s_int (fun _ _ => rfl))) (sa_cons (s_bin os_mulG (s_ix (sv 0) s_int (fun _ _ => rfl)) (s_ix (sv 1) s_int (fun _ _ => rfl))) sa_nil)))))
theorem g__law_ratio (F : Fun K "_law_ratio" "_law_ratio" s__law_ratio a_f d_f) (W : Wd P w K mg base)  : FnOk P w K mg base CX0 4 a_f d_f ["_law_number_here"] (spD K P w 1 f__law_ratio) := by
  have nd := sc__law_ratio.nd
  refine fn_ok (n := 1) (p := 1) (m := m__law_ratio) (k := 3) F sc__law_ratio rfl rfl rfl (fun cdv A outer s H E hr => ?_)
  exact (b_one (ss_ret (s_makeP W.mk2 (hr.mono (by decide)) (sa_cons (s_ix (sv 0) s_int (fun _ _ => rfl)) (sa_cons (s_ix (sv 0) s_int (fun _ _ => rfl)) sa_nil)))))
theorem g__law_number (F : Fun K "_law_number" "_law_number" s__law_number a_f d_f) (W : Wd P w K mg base) (p__law_draw : Pm P w K mg base "_law_draw" 1 2 ["_law_pot_here", "_law_many"] f__law_draw) (p__law_low : Pm P w K mg base "_law_low" 2 2 ["_law_top", "_law_bottom"] f__law_low) : FnOk P w K mg base CX0 3 a_f d_f ["_law_pot_here"] (spD K P w 1 f__law_number) := by
  have nd := sc__law_number.nd
  refine fn_ok (n := 2) (p := 1) (m := m__law_number) (k := 2) F sc__law_number rfl rfl rfl (fun cdv A outer s H E hr => ?_)
  exact (b_cons (ss_set nd (s_bin os_sub (s_callP p__law_draw (hr.mono (by decide)) (sa_cons (sv 0) (sa_cons s_int sa_nil))) s_int)) (b_one (ss_ret (s_if (st_cmp (os_eqF hr.units) (s_callP p__law_draw (hr.mono (by decide)) (sa_cons (sv 0) (sa_cons s_int sa_nil))) s_int (nomark _)) (s_callP p__law_low (hr.mono (by decide)) (sa_cons (sv 1) (sa_cons (s_bin os_add s_int (s_callP p__law_draw (hr.mono (by decide)) (sa_cons (sv 0) (sa_cons s_int sa_nil)))) sa_nil))) (s_tup (sa_cons (sv 1) (sa_cons s_int sa_nil)))))))
theorem g__law_rows (F : Fun K "_law_rows" "_law_rows" s__law_rows a_f d_f) (W : Wd P w K mg base) (p__law_number : Pm P w K mg base "_law_number" 3 1 ["_law_pot_here"] f__law_number) : FnOk P w K mg base CX0 4 a_f d_f ["_law_pot_here", "_law_columns", "_law_many"] (spD K P w 3 f__law_rows) := by
  have nd := sc__law_rows.nd
  refine fn_ok (n := 7) (p := 3) (m := m__law_rows) (k := 3) F sc__law_rows rfl rfl rfl (fun cdv A outer s H E hr => ?_)
  exact (b_cons (ss_own nd (sl_lst sa_nil)) (b_cons (ss_for PassesOwn.never rfl (si_range1 W.z_range (sa_cons (sv 2) sa_nil)) (g_name nd) (b_cons (ss_own nd (sl_lst sa_nil)) (b_cons (ss_for PassesOwn.never rfl (si_range1 W.z_range (sa_cons (sv 1) sa_nil)) (g_name nd) (b_one (ss_app (s_callP p__law_number (hr.mono (by decide)) (sa_cons (sv 0) sa_nil))))) (b_freeze 5 (b_one (ss_app (sv 5))))))) (b_freeze 3 (b_one (ss_ret (sv 3))))))
theorem g__law_passed (F : Fun K "_law_passed" "_law_passed" s__law_passed a_f d_f) (W : Wd P w K mg base) (p__law_draw : Pm P w K mg base "_law_draw" 1 2 ["_law_pot_here", "_law_many"] f__law_draw) (p__law_ratio : Pm P w K mg base "_law_ratio" 4 1 ["_law_number_here"] f__law_ratio) : FnOk P w K mg base CX0 5 a_f d_f ["_law_pot_here", "_law_row"] (spD K P w 2 f__law_passed) := by
  have nd := sc__law_passed.nd
  refine fn_ok (n := 3) (p := 2) (m := m__law_passed) (k := 4) F sc__law_passed rfl rfl rfl (fun cdv A outer s H E hr => ?_)
  exact (b_one (ss_ret (s_ofL (sl_comp [("_law_number_here", 2)] rfl rfl nd (blkOk_by (N := ["_law_pot_here", "_law_row", "_law_number_here"]) (sc := defScope s__law_passed) (by decide +kernel)) (si_list (sv 1)) (fun _ _ _ _ _ => (gw_name nd (by decide))) (fun _ _ _ _ _ => ts_nil) (fun _ _ _ _ _ => (s_if (st_w (sw_and (st_cmp (os_eqF hr.units) (s_ix (sv 2) s_int (fun _ _ => rfl)) s_int (nomark _)) (sw_and1 (st_cmp os_gt (s_callP p__law_draw (hr.mono (by decide)) (sa_cons (sv 0) (sa_cons s_int sa_nil))) s_int (nomark _))))) (s_ix (sv 2) s_int (fun _ _ => rfl)) (s_callP p__law_ratio (hr.mono (by decide)) (sa_cons (sv 2) sa_nil))))))))
theorem g__law_table (F : Fun K "_law_table" "_law_table" s__law_table a_f d_f) (W : Wd P w K mg base) (p__law_passed : Pm P w K mg base "_law_passed" 5 2 ["_law_pot_here", "_law_row"] f__law_passed) : FnOk P w K mg base CX0 8 a_f d_f ["_law_pot_here", "_law_columns", "_law_rows_here"] (spD K P w 3 f__law_table) := by
  have nd := sc__law_table.nd
  refine fn_ok (n := 4) (p := 3) (m := m__law_table) (k := 7) F sc__law_table rfl rfl rfl (fun cdv A outer s H E hr => ?_)
  exact (b_one (ss_ret (s_makeP W.mkTable (hr.mono (by decide)) (sa_cons (sv 1) (sa_cons (s_ofL (sl_comp [("_law_row", 3)] rfl rfl nd (blkOk_by (N := ["_law_pot_here", "_law_columns", "_law_rows_here", "_law_row"]) (sc := defScope s__law_table) (by decide +kernel)) (si_list (sv 2)) (fun _ _ _ _ _ => (gw_name nd (by decide))) (fun _ _ _ _ _ => ts_nil) (fun _ _ _ _ _ => (s_callP p__law_passed (hr.mono (by decide)) (sa_cons (sv 0) (sa_cons (sv 3) sa_nil)))))) sa_nil)))))
theorem g__law_letter (F : Fun K "_law_letter" "_law_letter" s__law_letter a_f d_f) (W : Wd P w K mg base) (p__law_draw : Pm P w K mg base "_law_draw" 1 2 ["_law_pot_here", "_law_many"] f__law_draw) : FnOk P w K mg base CX0 2 a_f d_f ["_law_pot_here", "_law_columns", "_law_most"] (spD K P w 3 f__law_letter) := by
  have nd := sc__law_letter.nd
  refine fn_ok (n := 5) (p := 3) (m := m__law_letter) (k := 1) F sc__law_letter rfl rfl rfl (fun cdv A outer s H E hr => ?_)
  exact (b_cons (ss_own nd (sl_lst sa_nil)) (b_cons (ss_for PassesOwn.never rfl (si_range1 W.z_range (sa_cons (sv 1) sa_nil)) (g_name nd) (b_one (ss_app (s_callP p__law_draw (hr.mono (by decide)) (sa_cons (sv 0) (sa_cons (s_bin os_add (sv 2) s_int) sa_nil)))))) (b_freeze 3 (b_one (ss_ret (s_callTy cs_tuple W.z_tuple (by decide +kernel) (sa_cons (sv 3) sa_nil)))))))
theorem g__law_word (F : Fun K "_law_word" "_law_word" s__law_word a_f d_f) (W : Wd P w K mg base) (p__law_letter : Pm P w K mg base "_law_letter" 2 3 ["_law_pot_here", "_law_columns", "_law_most"] f__law_letter) : FnOk P w K mg base CX0 3 a_f d_f ["_law_pot_here", "_law_columns", "_law_many"] (spD K P w 3 f__law_word) := by
  have nd := sc__law_word.nd
  refine fn_ok (n := 5) (p := 3) (m := m__law_word) (k := 2) F sc__law_word rfl rfl rfl (fun cdv A outer s H E hr => ?_)
  exact (b_cons (ss_own nd (sl_lst sa_nil)) (b_cons (ss_for PassesOwn.never rfl (si_range1 W.z_range (sa_cons (sv 2) sa_nil)) (g_name nd) (b_one (ss_app (s_callP p__law_letter (hr.mono (by decide)) (sa_cons (sv 0) (sa_cons (sv 1) (sa_cons s_int sa_nil))))))) (b_freeze 3 (b_one (ss_ret (s_callTy cs_tuple W.z_tuple (by decide +kernel) (sa_cons (sv 3) sa_nil)))))))
theorem g__law_worth (F : Fun K "_law_worth" "_law_worth" s__law_worth a_f d_f) (W : Wd P w K mg base) (p__law_times : Pm P w K mg base "_law_times" 3 2 ["_law_one", "_law_other"] f__law_times) : FnOk P w K mg base CX0 4 a_f d_f ["_law_letter_here", "_law_row"] (spD K P w 2 f__law_worth) := by
  have nd := sc__law_worth.nd
  refine fn_ok (n := 6) (p := 2) (m := m__law_worth) (k := 3) F sc__law_worth rfl rfl rfl (fun cdv A outer s H E hr => ?_)
  exact (b_cons (ss_set nd (s_tup (sa_cons s_int (sa_cons s_int sa_nil)))) (b_cons (ss_for PassesOwn.never rfl (si_zipM W.z_zip (sa_cons (sv 0) (sa_cons (sv 1) sa_nil))) (g_tup rfl (gs_cons (g_name nd) (gs_cons (g_name nd) gs_nil))) (b_one (ss_for PassesOwn.never rfl (si_range1 W.z_range (sa_cons (sv 3) sa_nil)) (g_name nd) (b_one (ss_set nd (s_callP p__law_times (hr.mono (by decide)) (sa_cons (sv 2) (sa_cons (sv 4) sa_nil)))))))) (b_one (ss_ret (sv 2)))))
theorem g__law_choices (F : Fun K "_law_choices" "_law_choices" s__law_choices a_f d_f) (W : Wd P w K mg base)  : FnOk P w K mg base CX0 1 a_f d_f ["_law_below", "_law_many"] (spD K P w 2 f__law_choices) := by
  have nd := sc__law_choices.nd
  refine fn_ok (n := 7) (p := 2) (m := m__law_choices) (k := 0) F sc__law_choices rfl rfl rfl (fun cdv A outer s H E hr => ?_)
  exact (b_cons (ss_own nd (sl_lst (sa_cons (s_ofL (sl_lst sa_nil)) sa_nil))) (b_freeze 2 (b_cons (ss_for PassesOwn.never rfl (si_range1 W.z_range (sa_cons (sv 1) sa_nil)) (g_name nd) (b_cons (ss_own nd (sl_lst sa_nil)) (b_cons (ss_for PassesOwn.never rfl (si_list (sv 2)) (g_name nd) (b_one (ss_ext (sl_comp [("_law_at", 6)] rfl rfl nd (blkOk_by (N := ["_law_below", "_law_many", "_law_found", "_law_turn", "_law_longer", "_law_one", "_law_at"]) (sc := defScope s__law_choices) (by decide +kernel)) (si_range2 W.z_range (sa_cons (s_if (st_cmp (os_neF hr.units) (sv 5) (s_ofL (sl_lst sa_nil)) (nomark _)) (s_bin os_add (s_ix (sv 5) (s_neg s_int) (fun _ _ => rfl)) s_int) s_int) (sa_cons (sv 0) sa_nil))) (fun _ _ _ _ _ => (gw_name nd (by decide))) (fun _ _ _ _ _ => ts_nil) (fun _ _ _ _ _ => (s_bin os_add (sv 5) (s_ofL (sl_lst (sa_cons (sv 6) sa_nil))))))))) (b_freeze 4 (b_one (ss_set nd (sv 4))))))) (b_one (ss_ret (sv 2))))))
theorem g__law_sum (F : Fun K "_law_sum" "_law_sum" s__law_sum a_f d_f) (W : Wd P w K mg base) (p__law_choices : Pm P w K mg base "_law_choices" 1 2 ["_law_below", "_law_many"] f__law_choices) (p__law_plus : Pm P w K mg base "_law_plus" 3 2 ["_law_one", "_law_other"] f__law_plus) (p__law_times : Pm P w K mg base "_law_times" 3 2 ["_law_one", "_law_other"] f__law_times) (p__law_worth : Pm P w K mg base "_law_worth" 4 2 ["_law_letter_here", "_law_row"] f__law_worth) : FnOk P w K mg base CX0 5 a_f d_f ["_law_rows_here", "_law_word_here"] (spD K P w 2 f__law_sum) := by
  have nd := sc__law_sum.nd
  refine fn_ok (n := 7) (p := 2) (m := m__law_sum) (k := 4) F sc__law_sum rfl rfl rfl (fun cdv A outer s H E hr => ?_)
  exact (b_cons (ss_set nd (s_tup (sa_cons s_int (sa_cons s_int sa_nil)))) (b_cons (ss_for PassesOwn.never rfl (si_list (s_callP p__law_choices (hr.mono (by decide)) (sa_cons (s_callB cs_len W.z_len (by decide +kernel) (sa_cons (sv 0) sa_nil)) (sa_cons (s_callB cs_len W.z_len (by decide +kernel) (sa_cons (sv 1) sa_nil)) sa_nil)))) (g_name nd) (b_cons (ss_set nd (s_tup (sa_cons s_int (sa_cons s_int sa_nil)))) (b_cons (ss_for PassesOwn.never rfl (si_zipY W.z_zip (sa_cons (sv 3) (sa_cons (sv 1) sa_nil))) (g_tup rfl (gs_cons (g_name nd) (gs_cons (g_name nd) gs_nil))) (b_one (ss_set nd (s_callP p__law_times (hr.mono (by decide)) (sa_cons (sv 4) (sa_cons (s_callP p__law_worth (hr.mono (by decide)) (sa_cons (sv 6) (sa_cons (s_ix (sv 0) (sv 5) (fun _ _ => rfl)) sa_nil))) sa_nil)))))) (b_one (ss_set nd (s_callP p__law_plus (hr.mono (by decide)) (sa_cons (sv 2) (sa_cons (sv 4) sa_nil)))))))) (b_one (ss_ret (sv 2)))))
theorem g__law_one_right (F : Fun K "_law_one_right" "_law_one_right" s__law_one_right a_f d_f) (W : Wd P w K mg base) (p__law_draw : Pm P w K mg base "_law_draw" 1 2 ["_law_pot_here", "_law_many"] f__law_draw) (p__law_plus : Pm P w K mg base "_law_plus" 3 2 ["_law_one", "_law_other"] f__law_plus) (p__law_ratio : Pm P w K mg base "_law_ratio" 4 1 ["_law_number_here"] f__law_ratio) (p__law_rows : Pm P w K mg base "_law_rows" 4 3 ["_law_pot_here", "_law_columns", "_law_many"] f__law_rows) (p__law_sum : Pm P w K mg base "_law_sum" 5 2 ["_law_rows_here", "_law_word_here"] f__law_sum) (p__law_table : Pm P w K mg base "_law_table" 8 3 ["_law_pot_here", "_law_columns", "_law_rows_here"] f__law_table) (p__law_times : Pm P w K mg base "_law_times" 3 2 ["_law_one", "_law_other"] f__law_times) (p_cuts : PmR P w K mg base "cuts" 8 2 ["columns", "word"] f_cuts) (pk_cuts : PmRK P w K mg base "cuts" 8 2 ["columns", "word"] ["word", "columns"] [1, 0] f_cuts) (p_joined : Pm P w K mg base "joined" 8 2 ["table", "other"] f_joined) (p_sums_ahead : PmR P w K mg base "sums_ahead" 9 2 ["table", "word"] f_sums_ahead) (p_sums_behind : PmR P w K mg base "sums_behind" 9 2 ["table", "word"] f_sums_behind) (pk_sums_behind : PmRK P w K mg base "sums_behind" 9 2 ["table", "word"] ["word", "table"] [1, 0] f_sums_behind) (p_turned : Pm P w K mg base "turned" 8 1 ["table"] f_turned) (p_turned_word : Pm P w K mg base "turned_word" 8 2 ["columns", "word"] f_turned_word) (p_word_sum : Pm P w K mg base "word_sum" 10 2 ["table", "word"] f_word_sum) (pk_word_sum : PmK P w K mg base "word_sum" 10 2 ["table", "word"] ["word", "table"] [1, 0] f_word_sum) : FnOk P w K mg base CX0 11 a_f d_f ["_law_pot_here", "_law_columns", "_law_rows_here", "_law_word_here"] (spD K P w 4 f__law_one_right) := by
  have nd := sc__law_one_right.nd
  refine fn_ok (n := 17) (p := 4) (m := m__law_one_right) (k := 10) F sc__law_one_right rfl rfl rfl (fun cdv A outer s H E hr => ?_)
  exact (b_cons (ss_par rfl nd (s_callP p__law_table (hr.mono (by decide)) (sa_cons (sv 0) (sa_cons (sv 1) (sa_cons (sv 2) sa_nil)))) (s_callB cs_len W.z_len (by decide +kernel) (sa_cons (sv 2) sa_nil))) (b_cons (ss_set nd (s_callP p__law_ratio (hr.mono (by decide)) (sa_cons (s_callP p__law_sum (hr.mono (by decide)) (sa_cons (sv 2) (sa_cons (sv 3) sa_nil))) sa_nil))) (b_cons (ss_if (st_w (sw_or (st_cmp (os_or (os_neS (SmP.ok W.sm) (hr.mono (by decide))) (os_neF hr.units)) (s_callP p_word_sum (hr.mono (by decide)) (sa_cons (sv 8) (sa_cons (sv 3) sa_nil))) (sv 4) (nomark _)) (sw_or1 (st_cmp (os_or (os_neS (SmP.ok W.sm) (hr.mono (by decide))) (os_neF hr.units)) (s_callPK pk_word_sum (hr.mono (by decide)) rfl rfl (sk_cons (sv 3) (sk_cons (sv 8) sk_nil))) (sv 4) (nomark _))))) (b_one (ss_ret s_bl)) b_nil) (b_cons (ss_parL rfl nd (sl_callPR p_sums_ahead (hr.mono (by decide)) (sa_cons (sv 8) (sa_cons (sv 3) sa_nil))) (s_ofL (sl_callPRK pk_sums_behind (hr.mono (by decide)) rfl rfl (sk_cons (sv 3) (sk_cons (sv 8) sk_nil))))) (b_cons (ss_if (st_peek (os_or (os_neS (SmP.ok W.sm) (hr.mono (by decide))) (os_neF hr.units)) 10 (s_ofL (sl_comp [("_law_at", 16)] rfl rfl nd (blkOk_by (N := ["_law_pot_here", "_law_columns", "_law_rows_here", "_law_word_here", "_law_whole", "_law_due", "_law_told", "_law_others", "_law_table_here", "_law_many", "_law_ahead", "_law_behind", "_law_more", "_law_total", "_law_near", "_law_far", "_law_at"]) (sc := defScope s__law_one_right) (by decide +kernel)) (si_range1 W.z_range (sa_cons (s_bin os_add (sv 9) s_int) sa_nil)) (fun _ _ _ _ _ => (gw_name nd (by decide))) (fun _ _ _ _ _ => ts_nil) (fun _ _ _ _ _ => (s_callP p__law_ratio (hr.mono (by decide)) (sa_cons (s_callP p__law_sum (hr.mono (by decide)) (sa_cons (s_sl (sv 2) so_no (so_some (sv 16))) (sa_cons (sv 3) sa_nil))) sa_nil))))) (nomark _)) (b_one (ss_ret s_bl)) b_nil) (b_cons (ss_if (st_cmp (os_or (os_neS (SmP.ok W.sm) (hr.mono (by decide))) (os_neF hr.units)) (sv 11) (s_ofL (sl_comp [("_law_at", 16)] rfl rfl nd (blkOk_by (N := ["_law_pot_here", "_law_columns", "_law_rows_here", "_law_word_here", "_law_whole", "_law_due", "_law_told", "_law_others", "_law_table_here", "_law_many", "_law_ahead", "_law_behind", "_law_more", "_law_total", "_law_near", "_law_far", "_law_at"]) (sc := defScope s__law_one_right) (by decide +kernel)) (si_range1 W.z_range (sa_cons (s_bin os_add (sv 9) s_int) sa_nil)) (fun _ _ _ _ _ => (gw_name nd (by decide))) (fun _ _ _ _ _ => ts_nil) (fun _ _ _ _ _ => (s_callP p__law_ratio (hr.mono (by decide)) (sa_cons (s_callP p__law_sum (hr.mono (by decide)) (sa_cons (s_sl (sv 2) (so_some (sv 16)) so_no) (sa_cons (sv 3) sa_nil))) sa_nil))))) (nomark _)) (b_one (ss_ret s_bl)) b_nil) (b_cons (ss_app s_non) (b_cons (ss_ownLc (i := 5) [("_law_at", 16)] rfl rfl nd (blkOk_by (N := ["_law_pot_here", "_law_columns", "_law_rows_here", "_law_word_here", "_law_whole", "_law_due", "_law_told", "_law_others", "_law_table_here", "_law_many", "_law_ahead", "_law_behind", "_law_more", "_law_total", "_law_near", "_law_far", "_law_at"]) (sc := defScope s__law_one_right) (by decide +kernel)) (si_range1 W.z_range (sa_cons (s_bin os_add (s_callB cs_len W.z_len (by decide +kernel) (sa_cons (sv 3) sa_nil)) s_int) sa_nil)) (fun _ _ _ _ _ => (gw_name nd (by decide))) (fun _ _ _ _ _ => ts_nil) (fun _ _ _ _ _ => (s_tup (sa_cons (s_sl (sv 3) so_no (so_some (sv 16))) (sa_cons (s_sl (sv 3) (so_some (sv 16)) so_no) sa_nil)))) (sw_true rfl rfl rfl (by decide +kernel))) (b_cons (ss_own nd (sl_callPR p_cuts (hr.mono (by decide)) (sa_cons (sv 1) (sa_cons (sv 3) sa_nil)))) (b_freeze 5 (b_cons (ss_if (st_w (sw_or (st_peek (os_or (os_neS (SmP.ok W.sm) (hr.mono (by decide))) (os_neF hr.units)) 6 (sv 5) (nomark _)) (sw_or (st_cmp (os_or (os_neS (SmP.ok W.sm) (hr.mono (by decide))) (os_neF hr.units)) (s_callP p_turned_word (hr.mono (by decide)) (sa_cons (sv 1) (sa_cons (sv 3) sa_nil))) (s_revT (sv 3)) (nomark _)) (sw_or1 (st_cmp (os_or (os_neS (SmP.ok W.sm) (hr.mono (by decide))) (os_neF hr.units)) (s_callP p_word_sum (hr.mono (by decide)) (sa_cons (s_callP p_turned (hr.mono (by decide)) (sa_cons (sv 8) sa_nil)) (sa_cons (s_revT (sv 3)) sa_nil))) (sv 4) (nomark _)))))) (b_one (ss_ret s_bl)) b_nil) (b_cons (ss_app s_non) (b_cons (ss_set nd (s_callP p__law_rows (hr.mono (by decide)) (sa_cons (sv 0) (sa_cons (sv 1) (sa_cons (s_callP p__law_draw (hr.mono (by decide)) (sa_cons (sv 0) (sa_cons s_int sa_nil))) sa_nil))))) (b_cons (ss_par rfl nd (s_callP p__law_table (hr.mono (by decide)) (sa_cons (sv 0) (sa_cons (sv 1) (sa_cons (sv 7) sa_nil)))) (s_tup (sa_cons s_int (sa_cons s_int sa_nil)))) (b_cons (ss_for PassesOwn.never rfl (si_list (sv 5)) (g_tup rfl (gs_cons (g_name nd) (gs_cons (g_name nd) gs_nil))) (b_one (ss_set nd (s_callP p__law_plus (hr.mono (by decide)) (sa_cons (sv 13) (sa_cons (s_callP p__law_times (hr.mono (by decide)) (sa_cons (s_callP p__law_sum (hr.mono (by decide)) (sa_cons (sv 2) (sa_cons (sv 14) sa_nil))) (sa_cons (s_callP p__law_sum (hr.mono (by decide)) (sa_cons (sv 7) (sa_cons (sv 15) sa_nil))) sa_nil))) sa_nil)))))) (b_cons (ss_if (st_cmp (os_or (os_neS (SmP.ok W.sm) (hr.mono (by decide))) (os_neF hr.units)) (s_callP p_word_sum (hr.mono (by decide)) (sa_cons (s_callP p_joined (hr.mono (by decide)) (sa_cons (sv 8) (sa_cons (sv 12) sa_nil))) (sa_cons (sv 3) sa_nil))) (s_callP p__law_ratio (hr.mono (by decide)) (sa_cons (sv 13) sa_nil)) (nomark _)) (b_one (ss_ret s_bl)) b_nil) (b_one (ss_ret (s_and (s_cmp (os_or (os_eqS (SmP.ok W.sm) (hr.mono (by decide))) (os_eqF hr.units)) (s_ofL (sl_callPRK pk_cuts (hr.mono (by decide)) rfl rfl (sk_cons (sv 3) (sk_cons (sv 1) sk_nil)))) (sv 5) (nomark _)) (s_one (s_cmp (os_or (os_eqS (SmP.ok W.sm) (hr.mono (by decide))) (os_eqF hr.units)) (s_callB cs_len W.z_len (by decide +kernel) (sa_cons (s_ofL (sl_callPR p_sums_ahead (hr.mono (by decide)) (sa_cons (sv 8) (sa_cons (sv 3) sa_nil)))) sa_nil)) (s_bin os_add (sv 9) s_int) (nomark _))))))))))))))))))))))
theorem g__law_right (F : Fun K "_law_right" "_law_right" s__law_right a_f d_f) (W : Wd P w K mg base) (p__law_draw : Pm P w K mg base "_law_draw" 1 2 ["_law_pot_here", "_law_many"] f__law_draw) (p__law_one_right : Pm P w K mg base "_law_one_right" 11 4 ["_law_pot_here", "_law_columns", "_law_rows_here", "_law_word_here"] f__law_one_right) (p__law_rows : Pm P w K mg base "_law_rows" 4 3 ["_law_pot_here", "_law_columns", "_law_many"] f__law_rows) (p__law_table : Pm P w K mg base "_law_table" 8 3 ["_law_pot_here", "_law_columns", "_law_rows_here"] f__law_table) (p__law_word : Pm P w K mg base "_law_word" 3 3 ["_law_pot_here", "_law_columns", "_law_many"] f__law_word) (p_word_sum : Pm P w K mg base "word_sum" 10 2 ["table", "word"] f_word_sum) : FnOk P w K mg base CX0 12 a_f d_f ["_law_pot_here"] (spD K P w 1 f__law_right) := by
  have nd := sc__law_right.nd
  refine fn_ok (n := 6) (p := 1) (m := m__law_right) (k := 11) F sc__law_right rfl rfl rfl (fun cdv A outer s H E hr => ?_)
  exact (b_cons (ss_set nd (s_callP p__law_draw (hr.mono (by decide)) (sa_cons (sv 0) (sa_cons s_int sa_nil)))) (b_cons (ss_par rfl nd (s_callP p__law_rows (hr.mono (by decide)) (sa_cons (sv 0) (sa_cons (sv 1) (sa_cons (s_callP p__law_draw (hr.mono (by decide)) (sa_cons (sv 0) (sa_cons s_int sa_nil))) sa_nil)))) (s_callP p__law_word (hr.mono (by decide)) (sa_cons (sv 0) (sa_cons (sv 1) (sa_cons (s_callP p__law_draw (hr.mono (by decide)) (sa_cons (sv 0) (sa_cons s_int sa_nil))) sa_nil))))) (b_cons (ss_if (st_not (st_val (s_callP p__law_one_right (hr.mono (by decide)) (sa_cons (sv 0) (sa_cons (sv 1) (sa_cons (sv 2) (sa_cons (sv 3) sa_nil))))))) (b_one (ss_ret s_bl)) b_nil) (b_cons (ss_par rfl nd (s_ofL (sl_rep (s_ofL (sl_lst (sa_cons (s_if (st_cmp (os_neF hr.units) (sv 2) (s_ofL (sl_lst sa_nil)) (nomark _)) (s_ix (sv 2) s_int (fun _ _ => rfl)) (s_ofL (sl_rep (s_ofL (sl_lst (sa_cons (s_tup (sa_cons s_int (sa_cons s_int sa_nil))) sa_nil))) (sv 1)))) sa_nil))) s_int)) (s_callP p__law_draw (hr.mono (by decide)) (sa_cons (sv 0) (sa_cons s_int sa_nil)))) (b_cons (ss_if (st_not (st_val (s_callP p__law_one_right (hr.mono (by decide)) (sa_cons (sv 0) (sa_cons (sv 1) (sa_cons (sv 4) (sa_cons (s_bin os_mulT (s_tup (sa_cons (s_bin os_mulT (s_tup (sa_cons s_int sa_nil)) (sv 1)) sa_nil)) (sv 5)) sa_nil))))))) (b_one (ss_ret s_bl)) b_nil) (b_one (ss_ret (s_cmp (os_or (os_eqS (SmP.ok W.sm) (hr.mono (by decide))) (os_eqF hr.units)) (s_callP p_word_sum (hr.mono (by decide)) (sa_cons (s_callP p__law_table (hr.mono (by decide)) (sa_cons (sv 0) (sa_cons (sv 1) (sa_cons (sv 4) sa_nil)))) (sa_cons (s_bin os_mulT (s_tup (sa_cons (s_bin os_mulT (s_tup (sa_cons s_int sa_nil)) (sv 1)) sa_nil)) s_int) sa_nil))) (s_makeP W.mk1 (hr.mono (by decide)) (sa_cons s_int sa_nil)) (nomark _)))))))))
end
end Pd

namespace Pd
open PySem L2 PySem.Spec PyProof.Rows

/-! The law's own pairs; the program's worth of a letter: a product of rationals. -/
def gcTest : Rho → T Bool := eTest (eBin opNeF (eVar 1) (eC (.int 0)))
def gcStep : Rho → T Out := sPar 0 1 (eVar 1) (eBin opModG (eCa bInt (aCons (eVar 0) aNil)) (eVar 1))
theorem gc_test (x y : Int) : gcTest [.val (.int x), .val (.int y)] = .ret (!decide (y = 0)) := rfl
theorem gc_step {x y : Int} (h : 0 < y) : gcStep [.val (.int x), .val (.int y)] = .ret (.nx [.val (.int y), .val (.int (x % y))]) := by
  have e : opModG (.int x) (.int y) = .ret (.int (x % y)) := by
    unfold opModG
    dsimp only
    rw [decide_eq_true (show y ≠ 0 by omega), Int.fmod_eq_emod_of_nonneg x (by omega)]
    rfl
  simp only [gcStep, sPar, eBin, eCa, aCons, aNil, eVar, bInt, T.bind, List.getElem?_cons_succ, List.getElem?_cons_zero, e, List.set_cons_succ, List.set_cons_zero]
theorem gc_run : ∀ (f x y : Nat), x * y < 2 ^ f → y ≤ x → whT gcTest gcStep (f + 1) [.val (.int x), .val (.int y)] = .ret (.nx [.val (.int (Nat.gcd x y : Nat)), .val (.int 0)])
  | f, x, 0, _, _ => by
    rw [whT, gc_test]
    simp [T.bind]
  | 0, x, y + 1, h, h1 => by
    have : 0 < x * (y + 1) := Nat.mul_pos (by omega) (by omega)
    simp at h
    omega
  | f + 1, x, y + 1, h, h1 => by
    have r := Nat.mod_lt x (show 0 < y + 1 by omega)
    have q : (y + 1) * (x % (y + 1)) < 2 ^ f := by
      have a := Nat.div_add_mod x (y + 1)
      have b : 1 ≤ x / (y + 1) := Nat.div_pos h1 (by omega)
      have c : (y + 1) * 1 ≤ (y + 1) * (x / (y + 1)) := Nat.mul_le_mul_left _ b
      have d : 2 * (x % (y + 1)) ≤ x := by omega
      have e : (2 * (x % (y + 1))) * (y + 1) ≤ x * (y + 1) := Nat.mul_le_mul_right _ d
      have g : (2 * (x % (y + 1))) * (y + 1) = 2 * ((y + 1) * (x % (y + 1))) := by rw [Nat.mul_assoc, Nat.mul_comm (x % (y + 1))]
      rw [g] at e
      rw [Nat.pow_succ] at h
      omega
    rw [whT, gc_test, T.bind]
    have t : (!decide (((y + 1 : Nat) : Int) = 0)) = true := by
      rw [decide_eq_false (by omega)]
      rfl
    rw [t]
    show (gcStep _).bind _ = _
    rw [gc_step (by omega), T.bind]
    have ez : ((x : Int) % ((y + 1 : Nat) : Int)) = ((x % (y + 1) : Nat) : Int) := by omega
    rw [ez]
    show whT gcTest gcStep (f + 1) _ = _
    rw [gc_run f (y + 1) (x % (y + 1)) q (Nat.le_of_lt r)]
    have z : Nat.gcd (y + 1) (x % (y + 1)) = Nat.gcd x (y + 1) := by
      rw [Nat.gcd_comm x, Nat.gcd_rec (y + 1) x, Nat.gcd_comm]
    rw [z]
theorem divisor_val {t b : Int} (hb : 0 < b) (h2 : b.natAbs < 2 ^ 9000) : f__law_divisor [.int t, .int b] = .ret (.int (Int.gcd b t : Int)) := by
  have r0 := Int.emod_nonneg t (show b ≠ 0 by omega)
  have r1 := Int.emod_lt_of_pos t hb
  have eb : ((b.natAbs : Nat) : Int) = b := by omega
  have er : (((t % b).natAbs : Nat) : Int) = t % b := by omega
  have hp : b.natAbs * (t % b).natAbs < 2 ^ 19998 := by
    refine Nat.lt_of_lt_of_le (Nat.mul_lt_mul'' h2 (Nat.lt_of_le_of_lt (by omega) h2)) ?_
    rw [← Nat.pow_add]
    exact Nat.pow_le_pow_right (by decide) (by decide)
  have run := gc_run 19998 b.natAbs (t % b).natAbs hp (by omega)
  rw [eb, er] at run
  have g : Nat.gcd b.natAbs (t % b).natAbs = Int.gcd b t := by
    show Int.gcd b (t % b) = Int.gcd b t
    have := Int.gcd_mul_left_add_right b (t % b) (t / b)
    rw [Int.mul_ediv_add_emod] at this
    exact this.symm
  rw [g] at run
  have first : whT gcTest gcStep 20000 [.val (.int t), .val (.int b)] = .ret (.nx [.val (.int (Int.gcd b t : Int)), .val (.int 0)]) := by
    rw [whT, gc_test, T.bind, decide_eq_false (show ¬ b = 0 by omega)]
    show (gcStep _).bind _ = _
    rw [gc_step hb, T.bind]
    exact run
  have last : eCa bAbs (aCons (eVar 0) aNil) [.val (.int (Int.gcd b t : Int)), .val (.int 0)] = .ret (.int (Int.gcd b t : Int)) := by
    simp only [eCa, aCons, aNil, eVar, T.bind, List.getElem?_cons_zero, abs_val, Int.natAbs_natCast]
  show (bSeq (whT gcTest gcStep 20000) (sRet (eCa bAbs (aCons (eVar 0) aNil))) [.val (.int t), .val (.int b)]).bind _ = _
  simp only [bSeq, first, T.bind, sRet, last]
theorem low_rat {t b : Int} (hb : 0 < b) (h2 : b.natAbs < 2 ^ 8999) : f__law_low [.int t, .int b] = .ret (qP (Rat.divInt t b)) := by
  have hb0 : b ≠ 0 := by omega
  have rb : (Int.gcd b t : Int) = ratioBy t b := (ratioBy_pos hb).symm
  have dv := divisor_val (t := t) hb (Nat.lt_of_lt_of_le h2 (Nat.pow_le_pow_right (by decide) (by decide)))
  rw [rb] at dv
  have l := ratioBy_log (t := t) hb0 (log_of h2 (by decide) (by decide))
  have n := ratioBy_ne (t := t) hb0
  have e1 : sSet 2 (eCall 2 f__law_divisor (aCons (eVar 0) (aCons (eVar 1) aNil))) [.val (.int t), .val (.int b), .un] = .ret (.nx [.val (.int t), .val (.int b), .val (.int (ratioBy t b))]) := by
    simp only [sSet, eCall, aCons, aNil, eVar, T.bind, List.getElem?_cons_succ, List.getElem?_cons_zero, List.length_cons, List.length_nil, BEq.rfl, cond, dv, List.set_cons_succ, List.set_cons_zero]
  have e2 : eTup (aCons (eBin opFDivG (eVar 0) (eVar 2)) (aCons (eBin opFDivG (eVar 1) (eVar 2)) aNil)) [.val (.int t), .val (.int b), .val (.int (ratioBy t b))] = .ret (qP (Rat.divInt t b)) := by
    simp only [eTup, aCons, aNil, eBin, eVar, T.bind, List.getElem?_cons_succ, List.getElem?_cons_zero, fdivG_val n l, small2, cond, low_num hb0, low_den hb0]
    rfl
  show (bSeq _ _ [.val (.int t), .val (.int b), .un]).bind _ = _
  simp only [bSeq, e1, T.bind, sRet, e2]
theorem times_val {p q : Rat} {m n : Nat} (hp : Sz m p) (hq : Sz n q) (l : m + n ≤ 8999) : f__law_times [qP p, qP q] = .ret (qP (p * q)) := by
  have s := sm_of hp hq (by omega)
  have lo := low_rat (t := p.num * q.num) (b := (p.den : Int) * (q.den : Int)) (by have := p.den_pos; have := q.den_pos; exact Int.mul_pos (by omega) (by omega)) (Nat.lt_of_lt_of_le (den_sz hp hq) (Nat.pow_le_pow_right (by decide) l))
  rw [← Rat.divInt_mul_divInt, Rat.num_divInt_den, Rat.num_divInt_den] at lo
  simp only [f__law_times, runB, m__law_times, sRet, eCall, aCons, aNil, eBin, eVar, eC, T.bind, List.map_cons, List.map_nil, List.length_cons, List.length_nil, List.cons_append, List.nil_append, List.getElem?_cons_succ, List.getElem?_cons_zero, qP, at_0, at_1, mulG_val s.a s.c, mulG_val s.b s.e, BEq.rfl, cond, lo]

/-! What a letter comes to, by the program and by the law. -/
theorem all_eq {α : Type} {P : α → Prop} {t : T α} {a : α} (e : t = .ret a) (h : P a) : t.all P := by subst e; exact h
theorem all_dr {α : Type} {P : α → Prop} {t : T α} {n : Nat} {k : Nat → T α} (e : t = .draw n k) (h : ∀ i, i < n → (k i).all P) : t.all P := by subst e; exact h
theorem call1_all {ρ : Rho} {a : Rho → T D} {f : List D → T D} {P : D → Prop} (h : (a ρ).all fun x => (f [x]).all P) : (eCall 1 f (aCons a aNil) ρ).all P :=
  T.all_bind.mpr (T.all_bind.mpr (T.all_mono (fun x hx => hx) h))
theorem call2_all {ρ : Rho} {a b : Rho → T D} {f : List D → T D} {P : D → Prop} (h : (a ρ).all fun x => (b ρ).all fun y => (f [x, y]).all P) : (eCall 2 f (aCons a (aCons b aNil)) ρ).all P :=
  T.all_bind.mpr (T.all_bind.mpr (T.all_mono (fun x hx => T.all_bind.mpr (T.all_bind.mpr (T.all_mono (fun y hy => hy) hx))) h))
theorem call3_all {ρ : Rho} {a b c : Rho → T D} {f : List D → T D} {P : D → Prop} (h : (a ρ).all fun x => (b ρ).all fun y => (c ρ).all fun z => (f [x, y, z]).all P) : (eCall 3 f (aCons a (aCons b (aCons c aNil))) ρ).all P :=
  T.all_bind.mpr (T.all_bind.mpr (T.all_mono (fun x hx => T.all_bind.mpr (T.all_bind.mpr (T.all_mono (fun y hy => T.all_bind.mpr (T.all_bind.mpr (T.all_mono (fun z hz => hz) hy))) hx))) h))
theorem bin_all {ρ : Rho} {a b : Rho → T D} {f : D → D → T D} {P : D → Prop} (h : (a ρ).all fun x => (b ρ).all fun y => (f x y).all P) : (eBin f a b ρ).all P :=
  T.all_bind.mpr (T.all_mono (fun _ hx => T.all_bind.mpr hx) h)
theorem var_val {ρ : Rho} {i : Nat} {d : D} (h : ρ[i]? = some (.val d)) : eVar i ρ = .ret d := by simp only [eVar, h]
theorem rng_val {ρ : Rho} {m : Rho → T D} {k : Nat} (hm : m ρ = .ret (.int (k : Int))) (hk : k ≤ 100000) : iRg rng1 (aCons m aNil) ρ = .ret (upto 0 k) := by
  have e1 : decide ((k : Int) ≤ 100000) = true := decide_eq_true (by omega)
  have e2 : decide (-100000 ≤ (k : Int)) = true := decide_eq_true (by omega)
  simp only [iRg, aCons, aNil, hm, T.bind, rng1, e1, e2, Bool.and_self, cond, Int.toNat_natCast]
theorem forT_cons {body : D → Rho → T Out} {d : D} {ds : List D} {ρ : Rho} {Q : Out → Prop} (h : (body d ρ).all fun o => ∃ ρ', o = .nx ρ' ∧ (forT body ds ρ').all Q) : (forT body (d :: ds) ρ).all Q :=
  T.all_bind.mpr (T.all_mono (fun o ho => by obtain ⟨ρ', rfl, q⟩ := ho; exact q) h)
/-- what a letter comes to -/
def wt : List Nat → List Rat → Rat
  | p :: ps, r :: rs => r ^ p * wt ps rs
  | _, _ => 1
def nI (n : Nat) : D := .int (n : Int)
def nt (l : List Nat) : D := .tup (l.map nI)
structure TB (s : Nat) (q : Rat) (t b : Int) : Prop where
  ne : b ≠ 0
  top : t.natAbs < 2 ^ s
  bot : b.natAbs < 2 ^ s
  eq : Rat.divInt t b = q
section
variable {s n : Nat} {q r : Rat} {t b : Int} {A B x y z : Ent}
theorem TB.step (h : TB s q t b) (g : Sz n r) : TB (s + n) (q * r) (t * r.num) (b * r.den) where
  ne := Int.mul_ne_zero h.ne den_ne
  top := by rw [Int.natAbs_mul]; exact Sz.mulP h.top g.num
  bot := by rw [Int.natAbs_mul]; exact Sz.mulP h.bot (by simpa using g.den)
  eq := by rw [← Rat.divInt_mul_divInt, h.eq, Rat.num_divInt_den]
theorem TB.mono {s2 : Nat} (h : TB s q t b) (l : s ≤ s2) : TB s2 q t b :=
  ⟨h.ne, Nat.lt_of_lt_of_le h.top (Nat.pow_le_pow_right (by decide) l), Nat.lt_of_lt_of_le h.bot (Nat.pow_le_pow_right (by decide) l), h.eq⟩
theorem TB.one : TB 1 1 1 1 := ⟨by decide, by decide, by decide, by decide +kernel⟩
def wBody : Rho → T Out := bSeq (sSet 2 (eBin opMulG (eVar 2) (eProp "Ratio" f_Rtop (eVar 5)))) (sSet 3 (eBin opMulG (eVar 3) (eProp "Ratio" f_Rbottom (eVar 5))))
theorem wbody_val (h : TB s q t b) (g : Sz n r) (l : s ≤ 8000) (l2 : n ≤ 8000) : wBody [A, B, .val (.int t), .val (.int b), x, .val (qR r), z] = .ret (.nx [A, B, .val (.int (t * r.num)), .val (.int (b * r.den)), x, .val (qR r), z]) := by
  have e1 : isC "Ratio" (qR r) = .ret () := isC_ratio _ _
  have e2 : f_Rtop [qR r] = .ret (.int r.num) := rtop_ratio _ _
  have e3 : f_Rbottom [qR r] = .ret (.int r.den) := rbottom_ratio _ _
  have m1 := mulG_val (i := t) (j := r.num) (log_of h.top (by omega) (by decide)) (log_of g.num (by omega) (by decide))
  have m2 := mulG_val (i := b) (j := (r.den : Int)) (log_of h.bot (by omega) (by decide)) (by simpa using log_of g.den (show n ≤ 9000 by omega) (by decide))
  simp only [wBody, bSeq, sSet, eBin, eVar, eProp, T.bind, List.getElem?_cons_succ, List.getElem?_cons_zero, List.set_cons_succ, List.set_cons_zero, e1, e2, e3, m1, m2]
def wInner : Rho → T Out := sFor (iRg rng1 (aCons (eVar 4) aNil)) (gNm 6) wBody
theorem winner_all {k : Nat} (h : TB s q t b) (g : Sz n r) (l : s + k * n ≤ 8000) (l2 : n ≤ 8000) (hk : k ≤ 100) : (wInner [A, B, .val (.int t), .val (.int b), .val (.int (k : Int)), .val (qR r), z]).all fun o => ∃ ρ', o = .nx ρ' ∧ ∃ t' b' z', ρ' = [A, B, .val (.int t'), .val (.int b'), .val (.int (k : Int)), .val (qR r), z'] ∧ TB (s + k * n) (q * r ^ k) t' b' := by
  show T.all _ ((iRg rng1 (aCons (eVar 4) aNil) _).bind fun ds => forT _ ds _)
  rw [rng_val (k := k) (var_val rfl) (by omega)]
  refine T.all_mono (fun o ho => ?_) (for_inv (P := fun i ρ => ∃ t' b' z', ρ = [A, B, .val (.int t'), .val (.int b'), .val (.int (k : Int)), .val (qR r), z'] ∧ TB (s + i * n) (q * r ^ i) t' b') (k := 0) ⟨t, b, z, rfl, by simpa [Rat.pow_zero, Rat.mul_one] using h⟩ fun i d ρ hi hd hp => ?_)
  · obtain ⟨ρ', rfl, t', b', z', rfl, h'⟩ := ho
    rw [upto_len, Nat.zero_add] at h'
    exact ⟨_, rfl, t', b', z', rfl, h'⟩
  · obtain ⟨t', b', z', rfl, h'⟩ := hp
    have hik : i < k := by
      have := (List.getElem?_eq_some_iff.mp hd).1
      rw [upto_len] at this
      omega
    have hl : i * n ≤ k * n := Nat.mul_le_mul_right _ (by omega)
    show T.all _ (wBody [A, B, .val (.int t'), .val (.int b'), .val (.int (k : Int)), .val (qR r), .val d])
    refine all_eq (wbody_val h' g (by omega) l2) ⟨_, rfl, _, _, _, rfl, ?_⟩
    have st := h'.step g
    rw [show s + (i + 1) * n = s + i * n + n by rw [Nat.succ_mul]; omega, Rat.pow_succ, ← Rat.mul_assoc]
    exact st
theorem wouter_all : ∀ (l : List Nat) (rs : List Rat) {s : Nat} {q : Rat} {t b : Int} {x y z : Ent}, TB s q t b → (∀ r ∈ rs, Sz n r) → (∀ p ∈ l, p ≤ 8) → s + l.length * (8 * n) ≤ 8000 →
    (forT (fun d ρ => (gTp 2 (gsCons (gNm 4) (gsCons (gNm 5) gsNil)) d ρ).bind wInner) (zipD (l.map nI) (rs.map qR)) [A, B, .val (.int t), .val (.int b), x, y, z]).all fun o => ∃ ρ', o = .nx ρ' ∧ ∃ t' b' x' y' z', ρ' = [A, B, .val (.int t'), .val (.int b'), x', y', z'] ∧ TB (s + l.length * (8 * n)) (q * wt l rs) t' b'
  | [], rs, s, q, t, b, x, y, z, h, _, _, _ => by
    refine ⟨_, rfl, t, b, x, y, z, rfl, ?_⟩
    have : wt [] rs = 1 := by cases rs <;> rfl
    rw [this, Rat.mul_one]
    exact h.mono (by omega)
  | p :: ps, [], s, q, t, b, x, y, z, h, _, _, _ => by
    refine ⟨_, rfl, t, b, x, y, z, rfl, ?_⟩
    show TB _ (q * 1) t b
    rw [Rat.mul_one]
    exact h.mono (by omega)
  | p :: ps, r :: rs, s, q, t, b, x, y, z, h, hr, hp, hl => by
    have hp0 : p ≤ 8 := hp p List.mem_cons_self
    have hpn : p * n ≤ 8 * n := Nat.mul_le_mul_right _ hp0
    rw [List.length_cons, Nat.succ_mul] at hl
    have n8 : n ≤ 8 * n := by omega
    refine forT_cons ?_
    show T.all _ (wInner [A, B, .val (.int t), .val (.int b), .val (.int (p : Int)), .val (qR r), z])
    refine T.all_mono (fun o ho => ?_) (winner_all h (hr r List.mem_cons_self) (by omega) (by omega) (by omega))
    obtain ⟨ρ', rfl, t', b', z', rfl, h'⟩ := ho
    refine ⟨_, rfl, T.all_mono (fun o ho => ?_) (wouter_all ps rs (s := s + 8 * n) (h'.mono (by omega)) (fun r hr' => hr r (List.mem_cons_of_mem _ hr')) (fun p hp' => hp p (List.mem_cons_of_mem _ hp')) (by omega))⟩
    obtain ⟨ρ', rfl, t2, b2, x2, y2, z2, rfl, h2⟩ := ho
    refine ⟨_, rfl, t2, b2, x2, y2, z2, rfl, ?_⟩
    rw [List.length_cons, Nat.succ_mul, show s + (ps.length * (8 * n) + 8 * n) = s + 8 * n + ps.length * (8 * n) by omega]
    show TB _ (q * (r ^ p * wt ps rs)) t2 b2
    rw [← Rat.mul_assoc]
    exact h2
end
theorem worth_at_all {l : List Nat} {rs : List Rat} (hr : ∀ r ∈ rs, Sz 2 r) (hp : ∀ p ∈ l, p ≤ 8) (hl : l.length ≤ 3) : (f_worth_at [nt l, .lst (rs.map qR)]).all fun d => d = qR (wt l rs) := by
  refine T.all_bind.mpr ?_
  show T.all _ (bSeq (sAsg _ _) (bSeq (sFor _ _ wInner) _) [.val (nt l), .val (.lst (rs.map qR)), .un, .un, .un, .un, .un])
  refine seq_nx (all_eq rfl ⟨_, rfl, seq_nx ?_⟩)
  show T.all _ (forT _ (zipD (l.map nI) (rs.map qR)) [.val (nt l), .val (.lst (rs.map qR)), .val (.int 1), .val (.int 1), .un, .un, .un])
  refine T.all_mono (fun o ho => ?_) (wouter_all (n := 2) l rs TB.one hr hp (by omega))
  obtain ⟨ρ', rfl, t, b, x, y, z, rfl, h⟩ := ho
  refine ⟨_, rfl, ?_⟩
  show T.all _ ((mkR (eVar 2) (eVar 3) _).bind fun d => .ret (Out.rt d))
  rw [mk_val (t := t) (b := b) (var_val rfl) (var_val rfl) h.ne (log_of h.bot (by omega) (by decide)), lowR_rat h.ne, h.eq, Rat.one_mul]
  rfl

/-! The law's own worth; letters multiplied; a letter at a row. -/
theorem sz_one : Sz 1 (1 : Rat) := ⟨by decide, by decide⟩
theorem qP_one : qP (1 : Rat) = .tup [.int 1, .int 1] := by simp [qP]
section
variable {s n : Nat} {q r : Rat} {A B x y z : Ent}
def lwBody : Rho → T Out := sSet 2 (eCall 2 f__law_times (aCons (eVar 2) (aCons (eVar 4) aNil)))
theorem lwbody_val (h : Sz s q) (g : Sz n r) (l : s + n ≤ 8000) : lwBody [A, B, .val (qP q), x, .val (qP r), z] = .ret (.nx [A, B, .val (qP (q * r)), x, .val (qP r), z]) := by
  simp only [lwBody, sSet, eCall, aCons, aNil, eVar, T.bind, List.getElem?_cons_succ, List.getElem?_cons_zero, List.length_cons, List.length_nil, BEq.rfl, cond, times_val h g (by omega), List.set_cons_succ, List.set_cons_zero]
def lwInner : Rho → T Out := sFor (iRg rng1 (aCons (eVar 3) aNil)) (gNm 5) lwBody
theorem lwinner_all {k : Nat} (h : Sz s q) (g : Sz n r) (l : s + k * n ≤ 8000) (hk : k ≤ 100) : (lwInner [A, B, .val (qP q), .val (.int (k : Int)), .val (qP r), z]).all fun o => ∃ ρ', o = .nx ρ' ∧ ∃ z', ρ' = [A, B, .val (qP (q * r ^ k)), .val (.int (k : Int)), .val (qP r), z'] ∧ Sz (s + k * n) (q * r ^ k) := by
  show T.all _ ((iRg rng1 (aCons (eVar 3) aNil) _).bind fun ds => forT _ ds _)
  rw [rng_val (k := k) (var_val rfl) (by omega)]
  refine T.all_mono (fun o ho => ?_) (for_inv (P := fun i ρ => ∃ z', ρ = [A, B, .val (qP (q * r ^ i)), .val (.int (k : Int)), .val (qP r), z'] ∧ Sz (s + i * n) (q * r ^ i)) (k := 0) ⟨z, by rw [Rat.pow_zero, Rat.mul_one], by simpa [Rat.pow_zero, Rat.mul_one] using h⟩ fun i d ρ hi hd hp => ?_)
  · obtain ⟨ρ', rfl, z', rfl, h'⟩ := ho
    rw [upto_len, Nat.zero_add] at h' ⊢
    exact ⟨_, rfl, z', rfl, h'⟩
  · obtain ⟨z', rfl, h'⟩ := hp
    have hik : i < k := by
      have := (List.getElem?_eq_some_iff.mp hd).1
      rw [upto_len] at this
      omega
    have hl : (i + 1) * n ≤ k * n := Nat.mul_le_mul_right _ (by omega)
    rw [Nat.succ_mul] at hl
    show T.all _ (lwBody [A, B, .val (qP (q * r ^ i)), .val (.int (k : Int)), .val (qP r), .val d])
    refine all_eq (lwbody_val h' g (by omega)) ⟨_, rfl, _, by rw [Rat.pow_succ, ← Rat.mul_assoc], ?_⟩
    rw [show s + (i + 1) * n = s + i * n + n by rw [Nat.succ_mul]; omega, Rat.pow_succ, ← Rat.mul_assoc]
    exact sz_mul h' g
theorem lwouter_all : ∀ (l : List Nat) (rs : List Rat) {s : Nat} {q : Rat} {x y z : Ent}, Sz s q → (∀ r ∈ rs, Sz n r) → (∀ p ∈ l, p ≤ 8) → s + l.length * (8 * n) ≤ 8000 →
    (forT (fun d ρ => (gTp 2 (gsCons (gNm 3) (gsCons (gNm 4) gsNil)) d ρ).bind lwInner) (zipD (l.map nI) (rs.map qP)) [A, B, .val (qP q), x, y, z]).all fun o => ∃ ρ', o = .nx ρ' ∧ ∃ x' y' z', ρ' = [A, B, .val (qP (q * wt l rs)), x', y', z'] ∧ Sz (s + l.length * (8 * n)) (q * wt l rs)
  | [], rs, s, q, x, y, z, h, _, _, _ => by
    have : wt [] rs = 1 := by cases rs <;> rfl
    rw [this, Rat.mul_one]
    exact ⟨_, rfl, x, y, z, rfl, h.mono (by omega)⟩
  | p :: ps, [], s, q, x, y, z, h, _, _, _ => by
    have : wt (p :: ps) [] = 1 := rfl
    rw [this, Rat.mul_one]
    exact ⟨_, rfl, x, y, z, rfl, h.mono (by omega)⟩
  | p :: ps, r :: rs, s, q, x, y, z, h, hr, hp, hl => by
    have hp0 : p ≤ 8 := hp p List.mem_cons_self
    have hpn : p * n ≤ 8 * n := Nat.mul_le_mul_right _ hp0
    rw [List.length_cons, Nat.succ_mul] at hl
    refine forT_cons ?_
    show T.all _ (lwInner [A, B, .val (qP q), .val (.int (p : Int)), .val (qP r), z])
    refine T.all_mono (fun o ho => ?_) (lwinner_all h (hr r List.mem_cons_self) (by omega) (by omega))
    obtain ⟨ρ', rfl, z', rfl, h'⟩ := ho
    refine ⟨_, rfl, T.all_mono (fun o ho => ?_) (lwouter_all ps rs (s := s + 8 * n) (h'.mono (by omega)) (fun r hr' => hr r (List.mem_cons_of_mem _ hr')) (fun p hp' => hp p (List.mem_cons_of_mem _ hp')) (by omega))⟩
    obtain ⟨ρ', rfl, x2, y2, z2, rfl, h2⟩ := ho
    have e : q * wt (p :: ps) (r :: rs) = q * r ^ p * wt ps rs := by
      show q * (r ^ p * wt ps rs) = _
      rw [← Rat.mul_assoc]
    rw [List.length_cons, Nat.succ_mul, show s + (ps.length * (8 * n) + 8 * n) = s + 8 * n + ps.length * (8 * n) by omega, e]
    exact ⟨_, rfl, x2, y2, z2, rfl, h2⟩
end
theorem law_worth_all {l : List Nat} {rs : List Rat} (hr : ∀ r ∈ rs, Sz 2 r) (hp : ∀ p ∈ l, p ≤ 8) (hl : l.length ≤ 3) : (f__law_worth [nt l, .lst (rs.map qP)]).all fun d => d = qP (wt l rs) ∧ Sz 60 (wt l rs) := by
  refine T.all_bind.mpr ?_
  show T.all _ (bSeq (sSet _ _) (bSeq (sFor _ _ lwInner) _) [.val (nt l), .val (.lst (rs.map qP)), .un, .un, .un, .un])
  refine seq_nx (all_eq rfl ⟨_, rfl, seq_nx ?_⟩)
  show T.all _ (forT _ (zipD (l.map nI) (rs.map qP)) [.val (nt l), .val (.lst (rs.map qP)), .val (.tup [.int 1, .int 1]), .un, .un, .un])
  rw [← qP_one]
  refine T.all_mono (fun o ho => ?_) (lwouter_all (n := 2) l rs sz_one hr hp (by omega))
  obtain ⟨ρ', rfl, x, y, z, rfl, h⟩ := ho
  rw [Rat.one_mul] at h ⊢
  exact ⟨_, rfl, rfl, h.mono (by omega)⟩
/-! letters -/
def isLt (c : Nat) (l : List Nat) : Bool := decide (l.length = c) && l.all fun p => decide (p ≤ 8)
theorem isLt_of {c : Nat} {l : List Nat} (h : isLt c l = true) : l.length = c ∧ ∀ p ∈ l, p ≤ 8 := by
  unfold isLt at h
  simp only [Bool.and_eq_true, decide_eq_true_eq, List.all_eq_true] at h
  exact h
theorem count_val (n : Nat) : f_is_count_to [nI n, .int 8] = .ret (.bl (decide (n ≤ 8))) := by
  have e1 : decide ((0 : Int) ≤ (n : Int)) = true := decide_eq_true (by omega)
  have e2 : decide ((n : Int) ≤ 8) = decide (n ≤ 8) := decide_eq_decide.mpr (by omega)
  simp only [f_is_count_to, f_is_count, f_is_integer, runB, m_is_count_to, m_is_count, nI, sRet, eAnd, eCall, aCons, aNil, eVar, eC, eBin, isInt_int, T.bind, asB, opGe, opLe, opI, List.map_cons, List.map_nil, List.length_cons, List.length_nil, List.cons_append, List.nil_append, List.getElem?_cons_succ, List.getElem?_cons_zero, BEq.rfl, cond, e1, e2, ge_iff_le]
theorem neI' (i j : Int) : opNeF (.int i) (.int j) = .ret (.bl (!decide (i = j))) := rfl
theorem eqI' (i j : Int) : opEqF (.int i) (.int j) = .ret (.bl (decide (i = j))) := rfl
/-! two letters walked together -/
theorem compT_zip {i j : Nat} {me : Rho → T D} {ρ : Rho} {f : D → D → D} : ∀ {as bs acc : List D}, acc.length + as.length ≤ 100000 → (∀ a ∈ as, ∀ b ∈ bs, me ((ρ.set i (.val a)).set j (.val b)) = .ret (f a b)) → compT (gTp 2 (gsCons (gNm i) (gsCons (gNm j) gsNil))) yesT me ρ (zipD as bs) acc = .ret (acc ++ List.zipWith f as bs)
  | [], bs, acc, _, _ => by simp [zipD, compT]
  | a :: as, [], acc, _, _ => by simp [zipD, compT]
  | a :: as, b :: bs, acc, hl, h => by
    have e := h a List.mem_cons_self b List.mem_cons_self
    rw [List.length_cons] at hl
    have c : small acc = true := decide_eq_true (by omega)
    have e1 : compT (gTp 2 (gsCons (gNm i) (gsCons (gNm j) gsNil))) yesT me ρ (zipD (a :: as) (b :: bs)) acc = (me ((ρ.set i (.val a)).set j (.val b))).bind fun y => cond (small acc) (compT (gTp 2 (gsCons (gNm i) (gsCons (gNm j) gsNil))) yesT me ρ (zipD as bs) (acc ++ [y])) .fail := rfl
    rw [e1, e]
    show cond (small acc) _ _ = _
    rw [c]
    show compT _ yesT me ρ (zipD as bs) (acc ++ [f a b]) = _
    rw [compT_zip (f := f) (by simp; omega) fun x hx y hy => h x (List.mem_cons_of_mem _ hx) y (List.mem_cons_of_mem _ hy), List.append_assoc]
    rfl
def addD : D → D → D
  | .int a, .int b => .int (a + b)
  | _, _ => .non
def addL : List Nat → List Nat → List Nat := List.zipWith (· + ·)
theorem add_nI : ∀ l m : List Nat, List.zipWith addD (l.map nI) (m.map nI) = (addL l m).map nI
  | [], _ => rfl
  | _ :: _, [] => rfl
  | a :: l, b :: m => by
    show addD (nI a) (nI b) :: List.zipWith addD (l.map nI) (m.map nI) = nI (a + b) :: (addL l m).map nI
    rw [add_nI l m]
    show D.int ((a : Int) + (b : Int)) :: _ = D.int ((a + b : Nat) : Int) :: _
    rw [Int.natCast_add]
theorem comp_add {i j : Nat} {me : Rho → T D} {ρ : Rho} {l m : List Nat} (hl : l.length ≤ 1000) (h : ∀ a b : Nat, me ((ρ.set i (.val (nI a))).set j (.val (nI b))) = opAdd (nI a) (nI b)) : compT (gTp 2 (gsCons (gNm i) (gsCons (gNm j) gsNil))) yesT me ρ (zipD (l.map nI) (m.map nI)) [] = .ret ((addL l m).map nI) := by
  rw [compT_zip (f := addD) (by simp; omega) fun a ha b hb => ?_, add_nI]
  · rfl
  · obtain ⟨x, _, rfl⟩ := List.mem_map.mp ha
    obtain ⟨y, _, rfl⟩ := List.mem_map.mp hb
    rw [h]
    rfl
theorem addL_len {l m : List Nat} : (addL l m).length = min l.length m.length := by unfold addL; simp
theorem small_of {ds : List D} (h : ds.length ≤ 100000) : small ds = true := decide_eq_true h
/-- tuple([.. for .. in zip(..)]) -/
theorem tuple_add {i j p q : Nat} {me : Rho → T D} {ρ : Rho} {l m : List Nat} (hp : ρ[p]? = some (.val (nt l))) (hq : ρ[q]? = some (.val (nt m))) (hl : l.length ≤ 1000) (h : ∀ a b : Nat, me (((wipeR ρ [i, j]).set i (.val (nI a))).set j (.val (nI b))) = opAdd (nI a) (nI b)) : eCa bTuple (aCons (eL (lComp [i, j] (iRg zipT (aCons (eVar p) (aCons (eVar q) aNil))) (gTp 2 (gsCons (gNm i) (gsCons (gNm j) gsNil))) yesT me)) aNil) ρ = .ret (nt (addL l m)) := by
  have e := comp_add (ρ := wipeR ρ [i, j]) (i := i) (j := j) (me := me) (l := l) (m := m) hl h
  have e2 : iRg zipT (aCons (eVar p) (aCons (eVar q) aNil)) ρ = .ret (zipD (l.map nI) (m.map nI)) := by
    simp only [iRg, aCons, aNil, eVar, hp, hq, T.bind, nt, zipT]
  have e3 : lComp [i, j] (iRg zipT (aCons (eVar p) (aCons (eVar q) aNil))) (gTp 2 (gsCons (gNm i) (gsCons (gNm j) gsNil))) yesT me ρ = .ret ((addL l m).map nI) := by
    unfold lComp
    rw [e2]
    exact e
  have s := small_of (ds := (addL l m).map nI) (by rw [List.length_map, addL_len]; omega)
  simp only [eCa, aCons, aNil, eL, e3, T.bind, bTuple, s, cond]
  rfl
/-! a row that is passed -/
inductive NumL : List D → List Rat → Prop
  | nil : NumL [] []
  | cons {d : D} {r : Rat} {ds : List D} {rs : List Rat} : Num d r → NumL ds rs → NumL (d :: ds) (r :: rs)
theorem NumL.len {ds : List D} {rs : List Rat} (h : NumL ds rs) : ds.length = rs.length := by
  induction h with
  | nil => rfl
  | cons _ _ ih => rw [List.length_cons, List.length_cons, ih]
theorem NumL.mem {ds : List D} {rs : List Rat} (h : NumL ds rs) : ∀ d ∈ ds, ∃ r ∈ rs, Num d r := by
  induction h with
  | nil => intro d hd; cases hd
  | cons a _ ih =>
    intro d hd
    rcases List.mem_cons.mp hd with z | z
    · subst z; exact ⟨_, List.mem_cons_self, a⟩
    · obtain ⟨r, m, n⟩ := ih d z; exact ⟨r, List.mem_cons_of_mem _ m, n⟩
theorem NumL.app {ds es : List D} {rs qs : List Rat} (h : NumL ds rs) (g : NumL es qs) : NumL (ds ++ es) (rs ++ qs) := by
  induction h with
  | nil => exact g
  | cons a _ ih => exact .cons a ih
theorem number_val {d : D} {r : Rat} (h : Num d r) : f_is_number [d] = .ret (.bl true) := by
  cases h with
  | q p => exact isNum_ratio _ _
  | i i => exact isNum_int _
theorem int_div1 (i : Int) : Rat.divInt i 1 = (i : Rat) := by
  have := Rat.num_divInt_den (i : Rat)
  rw [Rat.num_intCast, Rat.den_intCast] at this
  exact this
theorem compT_num {i : Nat} {me : Rho → T D} {ρ : Rho} (h : ∀ d r, Num d r → me (ρ.set i (.val d)) = .ret (qR r)) : ∀ {ds : List D} {rs : List Rat} {acc : List D}, NumL ds rs → acc.length + ds.length ≤ 100000 → compT (gNm i) yesT me ρ ds acc = .ret (acc ++ rs.map qR)
  | [], _, acc, .nil, _ => by unfold compT; simp
  | d :: ds, r :: rs, acc, .cons n t, hl => by
    rw [List.length_cons] at hl
    have c : small acc = true := decide_eq_true (by omega)
    have e : compT (gNm i) yesT me ρ (d :: ds) acc = (me (ρ.set i (.val d))).bind fun y => cond (small acc) (compT (gNm i) yesT me ρ ds (acc ++ [y])) .fail := rfl
    rw [e, h d r n]
    show cond (small acc) _ _ = _
    rw [c]
    show compT (gNm i) yesT me ρ ds (acc ++ [qR r]) = _
    rw [compT_num h t (by simp; omega), List.append_assoc]
    rfl
def SeqOf (v : D) (ds : List D) : Prop := v = .lst ds ∨ v = .tup ds
theorem SeqOf.sq {v : D} {ds : List D} (h : SeqOf v ds) {ρ : Rho} {i : Nat} (hi : ρ[i]? = some (.val v)) : iSq i ρ = .ret ds := by
  unfold iSq
  rcases h with rfl | rfl <;> rw [hi]
end Pd

/-! Tables: made of rows, asked for them. -/
namespace Pd
open PySem L2 PySem.Spec PyProof.Rows
theorem cRT : (["Ratio", "Table"] : List Str).contains ("Ratio" : Str) = true := by decide +kernel
theorem cTT : (["Ratio", "Table"] : List Str).contains ("Table" : Str) = true := by decide +kernel
theorem sTab : (("Table" : Str) == "Table") = true := by decide +kernel
theorem isR_q (q : Rat) : isOC ["Ratio", "Table"] "Ratio" (qR q) = .ret (.bl true) := by
  unfold qR ratio isOC
  simp only [cRT, sRR, cond]
theorem as_ratio_val {d : D} {r : Rat} (h : Num d r) : f_as_ratio [d] = .ret (qR r) := by
  cases h with
  | q p =>
    simp only [f_as_ratio, runB, m_as_ratio, bSeq, sIf, sRet, eTest, eUn, eVar, List.map_cons, List.map_nil, List.cons_append, List.nil_append, List.getElem?_cons_zero, T.bind, isR_q, asB, cond]
  | i i =>
    have e : isOC ["Ratio", "Table"] "Ratio" (.int i) = .ret (.bl false) := rfl
    have mk := init_val (t := i) (b := 1) (by decide) (by decide)
    have z : D.ins "Ratio" [("_top", .int (i.fdiv (ratioBy i 1))), ("_bottom", .int ((1 : Int).fdiv (ratioBy i 1)))] = qR (i : Rat) := by
      rw [← int_div1, ← lowR_rat (by decide)]
      rfl
    simp only [f_as_ratio, runB, m_as_ratio, bSeq, sIf, sRet, bNil, eTest, eUn, eVar, eMake, aCons, aNil, List.map_cons, List.map_nil, List.length_cons, List.length_nil, List.cons_append, List.nil_append, List.getElem?_cons_zero, T.bind, e, asB, BEq.rfl, cond, mk, z]
theorem are_numbers_val {c : Nat} {v : D} {ds : List D} {rs : List Rat} (hv : SeqOf v ds) (h : NumL ds rs) (hc : ds.length = c) (h3 : c ≤ 3) : f_are_numbers [v, .int (c : Int)] = .ret (.bl true) := by
  have il : f_is_list [v] = .ret (.bl true) := by rcases hv with rfl | rfl <;> rfl
  have len : bLen [v] = .ret (.int (c : Int)) := by subst hc; rcases hv with rfl | rfl <;> rfl
  have comp : lComp [2] (iSq 0) (gNm 2) yesT (eCall 1 f_is_number (aCons (eVar 2) aNil)) [.val v, .val (.int (c : Int)), .un] = .ret (ds.map fun _ => .bl true) := by
    have e := hv.sq (ρ := [.val v, .val (.int (c : Int)), .un]) (i := 0) rfl
    unfold lComp
    rw [e]
    show compT (gNm 2) yesT _ [.val v, .val (.int (c : Int)), .un] ds [] = _
    rw [compT_map (f := fun _ => .bl true) (by simp; omega) fun d hd => ?_]
    · rfl
    · obtain ⟨r, _, n⟩ := h.mem d hd
      show (cond (1 == 1) (f_is_number [d]) .fail) = _
      exact number_val n
  have al := all_val (p := fun _ => true) ds
  have t : ds.all (fun _ => true) = true := by simp
  rw [t] at al
  simp only [f_are_numbers, runB, m_are_numbers, sRet, eAnd, eBin, eCall, eCa, eL, aCons, aNil, eVar, List.map_cons, List.map_nil, List.length_cons, List.length_nil, List.cons_append, List.nil_append, List.replicate, List.getElem?_cons_succ, List.getElem?_cons_zero, T.bind, BEq.rfl, cond, il, asB, len, eqI', decide_true, comp, al]
/-- rows as they are passed, and their numbers -/
inductive RowsL (c : Nat) : List D → List (List Rat) → Prop
  | nil : RowsL c [] []
  | cons {v : D} {ds : List D} {rs : List Rat} {vs : List D} {rss : List (List Rat)} : SeqOf v ds → NumL ds rs → ds.length = c → RowsL c vs rss → RowsL c (v :: vs) (rs :: rss)
theorem RowsL.len {c : Nat} {vs : List D} {rss : List (List Rat)} (h : RowsL c vs rss) : vs.length = rss.length := by
  induction h with
  | nil => rfl
  | cons _ _ _ _ ih => rw [List.length_cons, List.length_cons, ih]
theorem RowsL.mem {c : Nat} {vs : List D} {rss : List (List Rat)} (h : RowsL c vs rss) : ∀ v ∈ vs, ∃ ds rs, SeqOf v ds ∧ NumL ds rs ∧ ds.length = c := by
  induction h with
  | nil => intro v hv; cases hv
  | cons a b d _ ih =>
    intro v hv
    rcases List.mem_cons.mp hv with z | z
    · subst z; exact ⟨_, _, a, b, d⟩
    · exact ih v z
theorem RowsL.app {c : Nat} {vs us : List D} {rss qss : List (List Rat)} (h : RowsL c vs rss) (g : RowsL c us qss) : RowsL c (vs ++ us) (rss ++ qss) := by
  induction h with
  | nil => exact g
  | cons a b d _ ih => exact .cons a b d ih
theorem gtI (i j : Int) : opGt (.int i) (.int j) = .ret (.bl (decide (j < i))) := rfl
theorem are_rows_val {c : Nat} {vs : List D} {rss : List (List Rat)} (h : RowsL c vs rss) (h3 : c ≤ 3) (h40 : vs.length ≤ 40) : f_are_rows [.int (c : Int), .lst vs] = .ret (.bl true) := by
  have il : f_is_list [.lst vs] = .ret (.bl true) := rfl
  have len : bLen [.lst vs] = .ret (.int (vs.length : Int)) := rfl
  have big : decide ((40 : Int) < (vs.length : Int)) = false := decide_eq_false (by omega)
  have comp : lComp [2] (iSq 1) (gNm 2) yesT (eCall 2 f_are_numbers (aCons (eVar 2) (aCons (eVar 0) aNil))) [.val (.int (c : Int)), .val (.lst vs), .un] = .ret (vs.map fun _ => .bl true) := by
    show compT (gNm 2) yesT _ [.val (.int (c : Int)), .val (.lst vs), .un] vs [] = _
    rw [compT_map (f := fun _ => .bl true) (by simp; omega) fun d hd => ?_]
    · rfl
    · obtain ⟨ds, rs, a, b, e⟩ := h.mem d hd
      show (cond (2 == 2) (f_are_numbers [d, .int (c : Int)]) .fail) = _
      exact are_numbers_val a b e h3
  have al := all_val (p := fun _ => true) vs
  have t : vs.all (fun _ => true) = true := by simp
  rw [t] at al
  simp only [f_are_rows, runB, m_are_rows, bSeq, sIf, sRet, bNil, tOr', tNot', eTest, eBin, eCall, eCa, eC, eL, aCons, aNil, eVar, List.map_cons, List.map_nil, List.length_cons, List.length_nil, List.cons_append, List.nil_append, List.replicate, List.getElem?_cons_succ, List.getElem?_cons_zero, T.bind, BEq.rfl, cond, il, asB, Bool.not_true, len, gtI, big, comp, al]
/-! the table -/
def rowD (rs : List Rat) : D := .lst (rs.map qR)
def tabF (c : Nat) (rss : List (List Rat)) : List (Str × D) := [("_columns", .int (c : Int)), ("_rows", .lst (rss.map rowD))]
def tabD (c : Nat) (rss : List (List Rat)) : D := .ins "Table" (tabF c rss)
theorem columns_val (c : Nat) (hc : c ≤ 3) : f_need_columns [.int (c : Int)] = .ret .non := by
  have : c = 0 ∨ c = 1 ∨ c = 2 ∨ c = 3 := by omega
  rcases this with rfl | rfl | rfl | rfl <;> exact rfl
@[irreducible] def rowsE : Rho → T D := eL (lComp [3] (iSq 2) (gNm 3) yesT (eL (lComp [4] (iSq 3) (gNm 4) yesT (eCall 1 f_as_ratio (aCons (eVar 4) aNil)))))
theorem rows_comp {c : Nat} {me : Rho → T D} {ρ : Rho} (hm : ∀ v ds rs, SeqOf v ds → NumL ds rs → ds.length = c → me (ρ.set 3 (.val v)) = .ret (rowD rs)) : ∀ {vs : List D} {rss : List (List Rat)} {acc : List D}, RowsL c vs rss → acc.length + vs.length ≤ 100000 → compT (gNm 3) yesT me ρ vs acc = .ret (acc ++ rss.map rowD)
  | [], _, acc, .nil, _ => by unfold compT; simp
  | v :: vs, rs :: rss, acc, .cons a b d t, hl => by
    rw [List.length_cons] at hl
    have s : small acc = true := decide_eq_true (by omega)
    have e : compT (gNm 3) yesT me ρ (v :: vs) acc = (me (ρ.set 3 (.val v))).bind fun y => cond (small acc) (compT (gNm 3) yesT me ρ vs (acc ++ [y])) .fail := rfl
    rw [e, hm v _ rs a b d]
    show cond (small acc) _ _ = _
    rw [s]
    show compT (gNm 3) yesT me ρ vs (acc ++ [rowD rs]) = _
    rw [rows_comp hm t (by simp; omega), List.append_assoc]
    rfl
theorem rowsE_val {c : Nat} {vs : List D} {rss : List (List Rat)} (h : RowsL c vs rss) (h3 : c ≤ 3) (h40 : vs.length ≤ 40) : rowsE [.un, .val (.int (c : Int)), .val (.lst vs), .un, .un] = .ret (.lst (rss.map rowD)) := by
  have inner : ∀ v ds rs, SeqOf v ds → NumL ds rs → ds.length = c → eL (lComp [4] (iSq 3) (gNm 4) yesT (eCall 1 f_as_ratio (aCons (eVar 4) aNil))) [.un, .val (.int (c : Int)), .val (.lst vs), .val v, .un] = .ret (rowD rs) := fun v ds rs a b e => by
    have q := a.sq (ρ := [.un, .val (.int (c : Int)), .val (.lst vs), .val v, .un]) (i := 3) rfl
    have e2 : lComp [4] (iSq 3) (gNm 4) yesT (eCall 1 f_as_ratio (aCons (eVar 4) aNil)) [.un, .val (.int (c : Int)), .val (.lst vs), .val v, .un] = .ret (rs.map qR) := by
      unfold lComp
      rw [q]
      show compT (gNm 4) yesT _ [.un, .val (.int (c : Int)), .val (.lst vs), .val v, .un] ds [] = _
      rw [compT_num (fun d r n => ?_) b (by simp; omega)]
      · rfl
      · show (cond (1 == 1) (f_as_ratio [d]) .fail) = _
        exact as_ratio_val n
    simp only [eL, e2, T.bind]
    rfl
  have outer : lComp [3] (iSq 2) (gNm 3) yesT (eL (lComp [4] (iSq 3) (gNm 4) yesT (eCall 1 f_as_ratio (aCons (eVar 4) aNil)))) [.un, .val (.int (c : Int)), .val (.lst vs), .un, .un] = .ret (rss.map rowD) := by
    show compT (gNm 3) yesT _ [.un, .val (.int (c : Int)), .val (.lst vs), .un, .un] vs [] = _
    rw [rows_comp (c := c) (fun v ds rs a b e => inner v ds rs a b e) h (by simp; omega)]
    rfl
  unfold rowsE
  simp only [eL, outer, T.bind]
theorem nCol : (("_rows" : Str) == "_columns") = false := by decide +kernel
theorem table_val {c : Nat} {vs : List D} {rss : List (List Rat)} (h : RowsL c vs rss) (h3 : c ≤ 3) (h40 : vs.length ≤ 40) : f_Table_init [.int (c : Int), .lst vs] = .ret (tabF c rss) := by
  have m : m_Table_init = iChk (eCall 1 f_need_columns (aCons (eVar 1) aNil)) (iIf (tNot' (eTest (eCall 2 f_are_rows (aCons (eVar 1) (aCons (eVar 2) aNil))))) (iFld "_columns" (eVar 1) (iFld "_rows" rowsE iNil))) := by
    unfold m_Table_init rowsE
    rfl
  have f1 : fieldD "_columns" [] = none := rfl
  have f2 : fieldD "_rows" [("_columns", D.int (c : Int))] = none := by
    unfold fieldD
    rw [nCol]
    rfl
  have d1 : decide (([] : List (Str × D)).length < 100) = true := rfl
  have d2 : decide (([("_columns", D.int (c : Int))] : List (Str × D)).length < 100) = true := rfl
  show m_Table_init [.un, .val (.int (c : Int)), .val (.lst vs), .un, .un] [] = _
  rw [m]
  simp only [iChk, iIf, iFld, iNil, tNot', eTest, eCall, aCons, aNil, eVar, List.length_cons, List.length_nil, List.getElem?_cons_succ, List.getElem?_cons_zero, T.bind, BEq.rfl, cond, columns_val c h3, are_rows_val h h3 h40, asB, Bool.not_true, f1, Option.isNone_none, d1, Bool.and_self, List.nil_append, f2, d2, rowsE_val h h3 h40]
  rfl
end Pd

namespace Pd
open PySem L2 PySem.Spec PyProof.Rows

/-! Texts, what is alike, the arithmetic of worths. -/
/-! alike -/
/-! worths -/
@[irreducible] def opMulR : D → D → T D := opAny "Ratio" opMulT (f_Rmul f_tb) (f_Rback (f_Rmul f_tb))
theorem right2_q (F : List D → T D) (x : D) (q : Rat) : right2 "Ratio" F x (qR q) = F [x, qR q] := by
  have c : isC "Ratio" (qR q) = .ret () := isC_ratio _ _
  show (isC "Ratio" (qR q)).bind (fun _ => F [x, qR q]) = _
  rw [c]
  rfl
theorem opAny_q (f : D → D → T D) (F R : List D → T D) (p : Rat) (y : D) : opAny "Ratio" f F R (qR p) y = right2 "Ratio" F (qR p) y := by
  have c : isC "Ratio" (qR p) = .ret () := isC_ratio _ _
  show (isC "Ratio" (qR p)).bind (fun _ => right2 "Ratio" F (qR p) y) = _
  rw [c]
  rfl
theorem mulR_val {p q : Rat} {m n : Nat} (hp : Sz m p) (hq : Sz n q) (l : m + n ≤ 9000) : opMulR (qR p) (qR q) = .ret (qR (p * q)) := by
  unfold opMulR
  rw [opAny_q, right2_q]
  exact mul_rat (Num.q q) hp hq l
/-! the greatest power -/

/-! What is drawn: letters, rows, rows as they are passed. -/
theorem draw_val {n : Nat} (a : 0 < n) (b : n ≤ 1000000) : f__law_draw [.pot, .int (n : Int)] = .draw n fun i => .ret (.int (i : Int)) := by
  have e1 : decide ((0 : Int) < (n : Int)) = true := decide_eq_true (by omega)
  have e2 : decide ((n : Int) ≤ 1000000) = true := decide_eq_true (by omega)
  unfold f__law_draw
  dsimp only
  rw [e1, e2]
  rfl
/-- a draw in an expression -/
theorem drawE {ρ : Rho} {i n : Nat} {m : Rho → T D} (h : ρ[i]? = some (.val .pot)) (hm : m ρ = .ret (.int (n : Int))) (a : 0 < n) (b : n ≤ 1000000) : eCall 2 f__law_draw (aCons (eVar i) (aCons m aNil)) ρ = .draw n fun i => .ret (.int (i : Int)) := by
  have e : eCall 2 f__law_draw (aCons (eVar i) (aCons m aNil)) ρ = f__law_draw [.pot, .int (n : Int)] := by
    simp only [eCall, aCons, aNil, eVar, h, hm, T.bind, List.length_cons, List.length_nil, BEq.rfl, cond]
  rw [e, draw_val a b]
theorem app_val {ρ : Rho} {i : Nat} {ds : List D} {m : Rho → T D} {d : D} (h : ρ[i]? = some (.own ds)) (hm : m ρ = .ret d) (l : ds.length ≤ 100000) : sApp i m ρ = .ret (.nx (ρ.set i (.own (ds ++ [d])))) := by
  have c : small ds = true := decide_eq_true l
  simp only [sApp, h, hm, T.bind, c, cond]
theorem app_all {ρ : Rho} {i : Nat} {ds : List D} {m : Rho → T D} {P : Out → Prop} (h : ρ[i]? = some (.own ds)) (l : ds.length ≤ 100000) (hm : (m ρ).all fun d => P (.nx (ρ.set i (.own (ds ++ [d]))))) : (sApp i m ρ).all P := by
  have c : small ds = true := decide_eq_true l
  have e : sApp i m ρ = (m ρ).bind fun d => .ret (.nx (ρ.set i (.own (ds ++ [d])))) := by
    simp only [sApp, h, c, cond]
  rw [e]
  exact T.all_bind.mpr hm
/-! a letter -/
/-! a number -/
/-! rows -/
/-! as it is passed -/
@[irreducible] def opAddR : D → D → T D := opAny "Ratio" opAdd (f_Radd' f_tb) (f_Rback (f_Radd' f_tb))
theorem addR_val {p q : Rat} {m n : Nat} (hp : Sz m p) (hq : Sz n q) (l : m + n ≤ 9000) : opAddR (qR p) (qR q) = .ret (qR (p + q)) := by
  unfold opAddR
  rw [opAny_q, right2_q]
  exact add_rat (Num.q q) hp hq l
/-- lists of Ratios by a function -/
def fl (f : Nat → Rat) (n : Nat) : List D := (List.range n).map fun a => qR (f a)
theorem fl_len (f : Nat → Rat) (n : Nat) : (fl f n).length = n := by unfold fl; simp
theorem fl_succ (f : Nat → Rat) (n : Nat) : fl f (n + 1) = fl f n ++ [qR (f n)] := by
  unfold fl
  rw [List.range_succ, List.map_append]
  rfl
theorem fl_get {f : Nat → Rat} {n i : Nat} (h : i < n) : (fl f n)[i]? = some (qR (f i)) := by
  unfold fl
  rw [List.getElem?_map, List.getElem?_range h]
  rfl
theorem at_fl {f : Nat → Rat} {n i : Nat} (h : i < n) : atI (fl f n) (i : Int) = some (qR (f i)) := by
  have e := fl_get (f := f) h
  have l := fl_len f n
  unfold atI ixN
  rw [l, if_pos (by omega), if_pos (by omega)]
  show (fl f n)[(i : Int).toNat]? = _
  rw [Int.toNat_natCast, e]
theorem ix_fl {f : Nat → Rat} {n i : Nat} (h : i < n) : ixL (fl f n) (.int (i : Int)) = .ret (qR (f i)) := by
  unfold ixL
  dsimp only
  rw [at_fl h]
/-- few bits -/
structure Bd (w : Nat → Nat → Rat) (K N : Nat) : Prop where
  dp : ∀ k a, k ≤ K → a ≤ N → Sz 4000 (dpS w k a)
  w : ∀ k a, k < K → a < N → Sz 100 (w k a)
@[irreducible] def lgBody : Rho → T Out := sApp 2 (eBin opAddR (ixOwn 2 (eVar 3)) (eBin opMulR (eBin ixD (eVar 0) (eVar 3)) (eVar 4)))
theorem longer_eq : m_longer_sums = bSeqL (sOwn 2 (lLst (aCons (eMake "Ratio" 1 [.int 1] f_Ratio_init (aCons (eC (.int 0)) aNil)) aNil))) (bSeqL (sFor (iRg enumL (aCons (eVar 1) aNil)) (gTp 2 (gsCons (gNm 3) (gsCons (gNm 4) gsNil))) lgBody) (retOwn 2)) := by
  unfold m_longer_sums lgBody opAddR opMulR
  rfl
theorem lgBody_val {w : Nat → Nat → Rat} {K N k n i : Nat} {W : Ent} (B : Bd w K N) (hk : k < K) (hn : n ≤ N) (h40 : n ≤ 40) (hi : i < n) : lgBody [.val (.lst (fl (dpS w k) (n + 1))), W, .own (fl (dpS w (k + 1)) (i + 1)), .val (.int (i : Int)), .val (qR (w k i))] = .ret (.nx [.val (.lst (fl (dpS w k) (n + 1))), W, .own (fl (dpS w (k + 1)) (i + 2)), .val (.int (i : Int)), .val (qR (w k i))]) := by
  have a1 : ixOwn 2 (eVar 3) [.val (.lst (fl (dpS w k) (n + 1))), W, .own (fl (dpS w (k + 1)) (i + 1)), .val (.int (i : Int)), .val (qR (w k i))] = .ret (qR (dpS w (k + 1) i)) := ix_fl (by omega)
  have a2 : eBin ixD (eVar 0) (eVar 3) [.val (.lst (fl (dpS w k) (n + 1))), W, .own (fl (dpS w (k + 1)) (i + 1)), .val (.int (i : Int)), .val (qR (w k i))] = .ret (qR (dpS w k i)) := ix_fl (by omega)
  have m1 := mulR_val (B.dp k i (by omega) (by omega)) (B.w k i hk (by omega)) (by decide)
  have z1 := sz_mul (B.dp k i (by omega) (by omega)) (B.w k i hk (by omega))
  have m2 := addR_val (B.dp (k + 1) i (by omega) (by omega)) z1 (by decide)
  have e : eBin opAddR (ixOwn 2 (eVar 3)) (eBin opMulR (eBin ixD (eVar 0) (eVar 3)) (eVar 4)) [.val (.lst (fl (dpS w k) (n + 1))), W, .own (fl (dpS w (k + 1)) (i + 1)), .val (.int (i : Int)), .val (qR (w k i))] = .ret (qR (dpS w (k + 1) (i + 1))) := by
    show ((ixOwn 2 (eVar 3) _).bind fun x => (eBin opMulR (eBin ixD (eVar 0) (eVar 3)) (eVar 4) _).bind fun y => opAddR x y) = _
    rw [a1]
    show ((((eBin ixD (eVar 0) (eVar 3) _).bind fun x => (eVar 4 _).bind fun y => opMulR x y)).bind fun y => opAddR (qR (dpS w (k + 1) i)) y) = _
    rw [a2]
    show ((opMulR (qR (dpS w k i)) (qR (w k i))).bind fun y => opAddR (qR (dpS w (k + 1) i)) y) = _
    rw [m1]
    exact m2
  unfold lgBody
  rw [app_val (i := 2) rfl e (by rw [fl_len]; have := hi; omega), fl_succ _ (i + 1)]
  rfl
theorem seqL_nx {m : Rho → T Out} {ml : Rho → T (List D)} {ρ : Rho} {P : List D → Prop} (h : (m ρ).all fun o => ∃ ρ', o = .nx ρ' ∧ (ml ρ').all P) : (bSeqL m ml ρ).all P :=
  T.all_bind.mpr (T.all_mono (fun o ho => by obtain ⟨ρ', rfl, q⟩ := ho; exact q) h)
theorem make1_val {ρ : Rho} {i : Int} : eMake "Ratio" 1 [.int 1] f_Ratio_init (aCons (eC (.int i)) aNil) ρ = .ret (qR (i : Rat)) := by
  have mk := init_val (t := i) (b := 1) (by decide) (by decide)
  have z : D.ins "Ratio" [("_top", .int (i.fdiv (ratioBy i 1))), ("_bottom", .int ((1 : Int).fdiv (ratioBy i 1)))] = qR (i : Rat) := by
    rw [← int_div1, ← lowR_rat (by decide)]
    rfl
  simp only [eMake, aCons, aNil, eC, List.length_cons, List.length_nil, List.cons_append, List.nil_append, T.bind, BEq.rfl, cond, mk, z]
theorem zero_cast : ((0 : Int) : Rat) = 0 := by simp
theorem small1 (x : D) : small [x] = true := small_of (by simp)
@[irreducible] def lgF : List D → T (List D) := f_longer_sums
theorem longer_all {w : Nat → Nat → Rat} {K N k n : Nat} (B : Bd w K N) (hk : k < K) (hn : n ≤ N) (h40 : n ≤ 40) : T.all (fun ds => ds = fl (dpS w (k + 1)) (n + 1)) (lgF [.lst (fl (dpS w k) (n + 1)), .lst (fl (w k) n)]) := by
  unfold lgF f_longer_sums runL
  rw [longer_eq]
  have first : sOwn 2 (lLst (aCons (eMake "Ratio" 1 [.int 1] f_Ratio_init (aCons (eC (.int 0)) aNil)) aNil)) [.val (.lst (fl (dpS w k) (n + 1))), .val (.lst (fl (w k) n)), .un, .un, .un] = .ret (.nx [.val (.lst (fl (dpS w k) (n + 1))), .val (.lst (fl (w k) n)), .own (fl (dpS w (k + 1)) 1), .un, .un]) := by
    have e := make1_val (ρ := [.val (.lst (fl (dpS w k) (n + 1))), .val (.lst (fl (w k) n)), .un, .un, .un]) (i := 0)
    rw [zero_cast] at e
    generalize eMake "Ratio" 1 [.int 1] f_Ratio_init (aCons (eC (.int 0)) aNil) = g at e ⊢
    simp only [sOwn, lLst, aCons, aNil, e, T.bind, small1, cond]
    rfl
  refine seqL_nx (all_eq first ⟨_, rfl, seqL_nx ?_⟩)
  show T.all _ (forT _ (numbered 0 (fl (w k) n)) _)
  refine T.all_mono (fun o ho => ?_) (for_inv (P := fun i ρ => ∃ x y, ρ = [.val (.lst (fl (dpS w k) (n + 1))), .val (.lst (fl (w k) n)), .own (fl (dpS w (k + 1)) (i + 1)), x, y]) (k := 0) ⟨.un, .un, rfl⟩ fun i d ρ hi hd hp => ?_)
  · obtain ⟨ρ', rfl, x, y, rfl⟩ := ho
    rw [numbered_len, fl_len, Nat.zero_add]
    exact ⟨_, rfl, rfl⟩
  · obtain ⟨x, y, rfl⟩ := hp
    obtain ⟨r, hr, rfl⟩ := numbered_get hd
    rw [Nat.sub_zero] at hr
    have hin : i < n := by
      have := (List.getElem?_eq_some_iff.mp hr).1
      rw [fl_len] at this
      exact this
    rw [fl_get hin] at hr
    cases hr
    rw [Nat.sub_zero, Nat.zero_add]
    show T.all _ (lgBody [.val (.lst (fl (dpS w k) (n + 1))), .val (.lst (fl (w k) n)), .own (fl (dpS w (k + 1)) (i + 1)), .val (.int (i : Int)), .val (qR (w k i))])
    rw [lgBody_val B hk hn h40 hin]
    exact ⟨_, rfl, _, _, rfl⟩
end Pd

/-! The table of sums ahead. -/
namespace Pd
open PySem L2 PySem.Spec PyProof.Rows
theorem one_cast : ((1 : Int) : Rat) = 1 := by simp
@[irreducible] def soBody : Rho → T Out := bFreeze 2 (sOwn 2 (lCallF 2 lgF (aCons (eVar 2) (aCons (eVar 3) aNil))))
@[irreducible] def soOnes : Rho → T (List D) := lComp [4] (iRg rng1 (aCons (eBin opAdd (eVar 1) (eC (.int 1))) aNil)) (gNm 4) yesT (eMake "Ratio" 1 [.int 1] f_Ratio_init (aCons (eC (.int 1)) aNil))
theorem so_eq : m_sums_of = bSeqL (sOwn 2 soOnes) (bSeqL (sFor (iLst (eVar 0)) (gNm 3) soBody) (retOwn 2)) := by
  unfold m_sums_of soBody soOnes lgF
  rfl
theorem ones_val {w : Nat → Nat → Rat} {W : Ent} {n : Nat} (h : n ≤ 40) : soOnes [W, .val (.int (n : Int)), .un, .un, .un] = .ret (fl (dpS w 0) (n + 1)) := by
  have e1 : eBin opAdd (eVar 1) (eC (.int 1)) [W, .val (.int (n : Int)), .un, .un, .un] = .ret (.int ((n + 1 : Nat) : Int)) := rfl
  have e2 := rng_val (k := n + 1) e1 (by omega)
  unfold soOnes lComp
  rw [e2]
  show compT (gNm 4) yesT _ [W, .val (.int (n : Int)), .un, .un, .un] (upto 0 (n + 1)) [] = _
  rw [compT_map (f := fun _ => qR 1) (by rw [upto_len]; simp; omega) fun d hd => by rw [make1_val, one_cast]]
  rw [List.nil_append]
  have m : ∀ (j : Int) (k : Nat), (upto j k).map (fun _ => qR 1) = List.replicate k (qR 1) := fun j k => by
    induction k generalizing j with
    | zero => rfl
    | succ k ih =>
      show qR 1 :: (upto (j + 1) k).map (fun _ => qR 1) = qR 1 :: List.replicate k (qR 1)
      rw [ih]
  rw [m]
  have m2 : fl (dpS w 0) (n + 1) = List.replicate (n + 1) (qR 1) := by
    unfold fl
    rw [List.map_congr_left (g := fun _ => qR 1) fun a _ => by rw [dp0]]
    exact List.eq_replicate_iff.mpr ⟨by rw [List.length_map, List.length_range], fun b hb => by obtain ⟨_, _, e⟩ := List.mem_map.mp hb; exact e.symm⟩
  rw [m2]
/-- the worths of a word's letters at the rows -/
def wl (w : Nat → Nat → Rat) (K n : Nat) : List D := (List.range K).map fun k => .lst (fl (w k) n)
theorem wl_get {w : Nat → Nat → Rat} {K n k : Nat} (h : k < K) : (wl w K n)[k]? = some (.lst (fl (w k) n)) := by
  unfold wl
  rw [List.getElem?_map, List.getElem?_range h]
  rfl
theorem soBody_all {w : Nat → Nat → Rat} {K N k n : Nat} {W y : Ent} (B : Bd w K N) (hk : k < K) (hn : n ≤ N) (h40 : n ≤ 40) : T.all (fun o => o = .nx [W, .val (.int (n : Int)), .own (fl (dpS w (k + 1)) (n + 1)), .val (.lst (fl (w k) n)), y]) (soBody [W, .val (.int (n : Int)), .own (fl (dpS w k) (n + 1)), .val (.lst (fl (w k) n)), y]) := by
  unfold soBody
  show T.all _ (sOwn 2 (lCallF 2 lgF (aCons (eVar 2) (aCons (eVar 3) aNil))) [W, .val (.int (n : Int)), .val (.lst (fl (dpS w k) (n + 1))), .val (.lst (fl (w k) n)), y])
  refine T.all_bind.mpr ?_
  show T.all _ (lgF [.lst (fl (dpS w k) (n + 1)), .lst (fl (w k) n)])
  refine T.all_mono (fun ds hd => ?_) (longer_all B hk hn h40)
  subst hd
  rfl
@[irreducible] def soF : List D → T (List D) := f_sums_of
theorem sums_of_all {w : Nat → Nat → Rat} {K N n : Nat} (B : Bd w K N) (hn : n ≤ N) (h40 : n ≤ 40) : T.all (fun ds => ds = fl (dpS w K) (n + 1)) (soF [.lst (wl w K n), .int (n : Int)]) := by
  unfold soF f_sums_of runL
  rw [so_eq]
  have first : sOwn 2 soOnes [.val (.lst (wl w K n)), .val (.int (n : Int)), .un, .un, .un] = .ret (.nx [.val (.lst (wl w K n)), .val (.int (n : Int)), .own (fl (dpS w 0) (n + 1)), .un, .un]) := by
    unfold sOwn
    rw [ones_val (w := w) h40]
    rfl
  refine seqL_nx (all_eq first ⟨_, rfl, seqL_nx ?_⟩)
  show T.all _ (forT _ (wl w K n) _)
  refine T.all_mono (fun o ho => ?_) (for_inv (P := fun k ρ => ∃ x y, ρ = [.val (.lst (wl w K n)), .val (.int (n : Int)), .own (fl (dpS w k) (n + 1)), x, y]) (k := 0) ⟨.un, .un, rfl⟩ fun k d ρ hi hd hp => ?_)
  · obtain ⟨ρ', rfl, x, y, rfl⟩ := ho
    have l : (wl w K n).length = K := by unfold wl; simp
    rw [l, Nat.zero_add]
    exact ⟨_, rfl, rfl⟩
  · obtain ⟨x, y, rfl⟩ := hp
    rw [Nat.sub_zero] at hd
    have hk : k < K := by
      have := (List.getElem?_eq_some_iff.mp hd).1
      have l : (wl w K n).length = K := by unfold wl; simp
      rw [l] at this
      exact this
    rw [wl_get hk] at hd
    cases hd
    show T.all _ (soBody [.val (.lst (wl w K n)), .val (.int (n : Int)), .own (fl (dpS w k) (n + 1)), .val (.lst (fl (w k) n)), y])
    refine T.all_mono (fun o ho => ?_) (soBody_all B hk hn h40)
    subst ho
    exact ⟨_, rfl, _, _, rfl⟩
end Pd

/-! A table asked; a letter at each row. -/
namespace Pd
open PySem L2 PySem.Spec PyProof.Rows
theorem sRows : (("_rows" : Str) == "_rows") = true := by decide +kernel
theorem sCols : (("_columns" : Str) == "_columns") = true := by decide +kernel
theorem rows_attr (c : Nat) (rss : List (List Rat)) : attrD "Table" "_rows" (tabD c rss) = .ret (.lst (rss.map rowD)) := by
  unfold tabD tabF attrD
  simp only [sTab, cond, fieldD, nCol, sRows, optT]
theorem cols_attr (c : Nat) (rss : List (List Rat)) : attrD "Table" "_columns" (tabD c rss) = .ret (.int (c : Int)) := by
  unfold tabD tabF attrD
  simp only [sTab, cond, fieldD, sCols, optT]
theorem columns_of (c : Nat) (rss : List (List Rat)) : f_Table_columns [tabD c rss] = .ret (.int (c : Int)) := by
  simp only [f_Table_columns, runB, m_Table_columns, sRet, eUn, eVar, List.map_cons, List.map_nil, List.cons_append, List.nil_append, List.getElem?_cons_zero, T.bind, cols_attr]
theorem height_of (c : Nat) (rss : List (List Rat)) : f_Table_height [tabD c rss] = .ret (.int (rss.length : Int)) := by
  have e : bLen [.lst (rss.map rowD)] = .ret (.int (rss.length : Int)) := by
    show T.ret (D.int ((rss.map rowD).length : Int)) = _
    rw [List.length_map]
  simp only [f_Table_height, runB, m_Table_height, sRet, eCa, aCons, aNil, eUn, eVar, List.map_cons, List.map_nil, List.cons_append, List.nil_append, List.getElem?_cons_zero, T.bind, rows_attr, e]
theorem rows_of {c : Nat} {rss : List (List Rat)} (h : rss.length ≤ 40) (h3 : ∀ rs ∈ rss, rs.length ≤ 3) : f_Table_rows [tabD c rss] = .ret (rss.map rowD) := by
  have it : iLst (eUn (attrD "Table" "_rows") (eVar 0)) [.val (tabD c rss), .un] = .ret (rss.map rowD) := by
    simp only [iLst, eUn, eVar, List.getElem?_cons_zero, T.bind, rows_attr, asL]
  show lComp [1] (iLst (eUn (attrD "Table" "_rows") (eVar 0))) (gNm 1) yesT (eL (lCa bList (aCons (eVar 1) aNil))) [.val (tabD c rss), .un] = _
  unfold lComp
  rw [it]
  show compT (gNm 1) yesT _ [.val (tabD c rss), .un] (rss.map rowD) [] = _
  rw [compT_map (f := fun d => d) (by simp; omega) fun d hd => ?_]
  · simp
  · obtain ⟨rs, hr, rfl⟩ := List.mem_map.mp hd
    have s : small (rs.map qR) = true := small_of (by have := h3 rs hr; simp; omega)
    show (eL (lCa bList (aCons (eVar 1) aNil)) [.val (tabD c rss), .val (rowD rs)]) = _
    unfold rowD
    simp only [eL, lCa, aCons, aNil, eVar, List.getElem?_cons_succ, List.getElem?_cons_zero, T.bind, bList, s, cond]
theorem compT_all {i : Nat} {me : Rho → T D} {ρ : Rho} {f : D → D} : ∀ {ds acc : List D}, acc.length + ds.length ≤ 100000 → (∀ d ∈ ds, (me (ρ.set i (.val d))).all fun x => x = f d) → (compT (gNm i) yesT me ρ ds acc).all fun es => es = acc ++ ds.map f
  | [], acc, _, _ => by
    show acc = acc ++ []
    rw [List.append_nil]
  | d :: ds, acc, hl, h => by
    rw [List.length_cons] at hl
    have c : small acc = true := decide_eq_true (by omega)
    have e : compT (gNm i) yesT me ρ (d :: ds) acc = (me (ρ.set i (.val d))).bind fun y => cond (small acc) (compT (gNm i) yesT me ρ ds (acc ++ [y])) .fail := rfl
    rw [e, c]
    refine T.all_bind.mpr (T.all_mono (fun y hy => ?_) (h d List.mem_cons_self))
    subst hy
    have ih := compT_all (i := i) (me := me) (ρ := ρ) (f := f) (ds := ds) (acc := acc ++ [f d]) (by simp; omega) fun x hx => h x (List.mem_cons_of_mem _ hx)
    refine T.all_mono (fun es he => ?_) ih
    rw [he, List.append_assoc]
    rfl
@[irreducible] def wsF : List D → T (List D) := f_worths_at
def unRow : D → List Rat
  | .lst ds => ds.map fun d => match d with
    | .ins _ [(_, .int t), (_, .int b)] => Rat.divInt t b
    | _ => 0
  | _ => []
theorem un_row (rs : List Rat) : unRow (rowD rs) = rs := by
  show (rs.map qR).map _ = rs
  rw [List.map_map]
  have : ∀ q : Rat, (match qR q with
    | .ins _ [(_, .int t), (_, .int b)] => Rat.divInt t b
    | _ => 0) = q := fun q => Rat.num_divInt_den q
  exact (List.map_congr_left fun q _ => this q).trans (List.map_id _)
theorem worths_all {l : List Nat} {rss : List (List Rat)} (h : rss.length ≤ 40) (hr : ∀ rs ∈ rss, ∀ r ∈ rs, Sz 2 r) (hp : ∀ p ∈ l, p ≤ 8) (hl : l.length ≤ 3) : T.all (fun ds => ds = rss.map fun rs => qR (wt l rs)) (wsF [nt l, .lst (rss.map rowD)]) := by
  unfold wsF
  show T.all _ (compT (gNm 2) yesT (eCall 2 f_worth_at (aCons (eVar 0) (aCons (eVar 2) aNil))) [.val (nt l), .val (.lst (rss.map rowD)), .un] (rss.map rowD) [])
  refine T.all_mono (fun ds hd => ?_) (compT_all (f := fun d => qR (wt l (unRow d))) (by simp; omega) fun d hd => ?_)
  · rw [hd, List.nil_append, List.map_map]
    exact List.map_congr_left fun rs _ => by
      show qR (wt l (unRow (rowD rs))) = _
      rw [un_row]
  · obtain ⟨rs, hrs, rfl⟩ := List.mem_map.mp hd
    show T.all _ (eCall 2 f_worth_at (aCons (eVar 0) (aCons (eVar 2) aNil)) [.val (nt l), .val (.lst (rss.map rowD)), .val (rowD rs)])
    rw [un_row]
    exact call2_all (all_eq (var_val rfl) (all_eq (var_val rfl) (worth_at_all (hr rs hrs) hp hl)))
end Pd

namespace Pd
open PySem L2 PySem.Spec PyProof.Rows

/-! The law's own worth; letters multiplied; a letter at a row. -/
section
variable {s n : Nat} {q r : Rat} {A B x y z : Ent}
end
/-! letters -/
theorem counts_val {c : Int} {l : List Nat} (h : l.length ≤ 1000) : lComp [3] (iTp (eVar 1)) (gNm 3) yesT (eCall 2 f_is_count_to (aCons (eVar 3) (aCons (eVar 2) aNil))) [.val (.int c), .val (nt l), .val (.int 8), .un] = .ret ((l.map nI).map fun d => .bl (match d with | .int i => decide (i ≤ 8) | _ => false)) := by
  show compT (gNm 3) yesT _ [.val (.int c), .val (nt l), .val (.int 8), .un] (l.map nI) [] = _
  rw [compT_map (f := fun d => .bl (match d with | .int i => decide (i ≤ 8) | _ => false)) (by simp; omega) fun d hd => ?_]
  · rfl
  · obtain ⟨n, _, rfl⟩ := List.mem_map.mp hd
    show (cond (2 == 2) (f_is_count_to [nI n, .int 8]) .fail) = _
    rw [BEq.rfl, count_val]
    show T.ret _ = T.ret _
    have e2 : decide ((n : Int) ≤ 8) = decide (n ≤ 8) := decide_eq_decide.mpr (by omega)
    show T.ret (D.bl (decide (n ≤ 8))) = T.ret (D.bl (decide ((n : Int) ≤ 8)))
    rw [e2]
theorem letter_to_val {c : Nat} {l : List Nat} (h : l.length ≤ 1000) : f_is_letter_to [.int (c : Int), nt l, .int 8] = .ret (.bl (isLt c l)) := by
  have y1 : isDY ["Ratio", "Table"] .tuple (nt l) = .ret (.bl true) := rfl
  have len : bLen [nt l] = .ret (.int (l.length : Int)) := by
    show T.ret (D.int ((l.map nI).length : Int)) = _
    rw [List.length_map]
  have al := all_val (p := fun d => match d with | .int i => decide (i ≤ 8) | _ => false) (l.map nI)
  have e : decide ((l.length : Int) = (c : Int)) = decide (l.length = c) := decide_eq_decide.mpr (by omega)
  have e3 : (l.map nI).all (fun d => match d with | .int i => decide (i ≤ 8) | _ => false) = l.all fun p => decide (p ≤ 8) := by
    rw [List.all_map]
    congr 1
    funext p
    exact decide_eq_decide.mpr (show ((p : Int) ≤ 8) ↔ p ≤ 8 by omega)
  rw [e3] at al
  simp only [f_is_letter_to, runB, m_is_letter_to, bSeq, sIf, sRet, tOr', tNot', eTest, eUn, eVar, eBin, eCa, eC, aCons, aNil, bNil, List.map_cons, List.map_nil, List.length_cons, List.length_nil, List.cons_append, List.nil_append, List.replicate, List.getElem?_cons_succ, List.getElem?_cons_zero, T.bind, y1, asB, cond, Bool.not_true, len, neI', eL, e, isLt]
  cases decide (l.length = c) <;> simp only [Bool.not_true, Bool.not_false, T.bind, counts_val h, al, Bool.true_and, Bool.false_and]
/-! two letters walked together -/
/-! a row that is passed -/
/-- a word -/
def nw (ls : List (List Nat)) : D := .tup (ls.map nt)
def isWd (c : Nat) (ls : List (List Nat)) : Bool := decide (ls.length ≤ 8) && ls.all (isLt c)
def isLD (c : Nat) : D → Bool
  | .tup ds => decide (ds.length = c) && ds.all fun d => match d with
    | .int i => decide (i ≤ 8)
    | _ => false
  | _ => false
theorem isLD_nt (c : Nat) (l : List Nat) : isLD c (nt l) = isLt c l := by
  show (decide ((l.map nI).length = c) && (l.map nI).all _) = _
  unfold isLt
  rw [List.length_map, List.all_map]
  congr 2
  funext p
  exact decide_eq_decide.mpr (show ((p : Int) ≤ 8) ↔ p ≤ 8 by omega)
theorem letters_val {c : Nat} {ls : List (List Nat)} (h : ls.length ≤ 8) (h2 : ∀ l ∈ ls, l.length ≤ 1000) : lComp [3] (iTp (eVar 1)) (gNm 3) yesT (eCall 3 f_is_letter_to (aCons (eVar 0) (aCons (eVar 3) (aCons (eVar 2) aNil)))) [.val (.int (c : Int)), .val (nw ls), .val (.int 8), .un] = .ret ((ls.map nt).map fun d => .bl (isLD c d)) := by
  show compT (gNm 3) yesT _ [.val (.int (c : Int)), .val (nw ls), .val (.int 8), .un] (ls.map nt) [] = _
  rw [compT_map (f := fun d => .bl (isLD c d)) (by simp; omega) fun d hd => ?_]
  · rfl
  · obtain ⟨l, hl, rfl⟩ := List.mem_map.mp hd
    show (cond (3 == 3) (f_is_letter_to [.int (c : Int), nt l, .int 8]) .fail) = _
    rw [isLD_nt]
    exact letter_to_val (h2 l hl)
theorem word_to_val {c : Nat} {ls : List (List Nat)} (h : isWd c ls = true) (h3 : c ≤ 3) : f_is_word_to [.int (c : Int), nw ls, .int 8] = .ret (.bl true) := by
  obtain ⟨a, b⟩ := Bool.and_eq_true_iff.mp h
  have a := of_decide_eq_true a
  have b2 : ∀ l ∈ ls, l.length ≤ 1000 := fun l hl => by
    have := (isLt_of (List.all_eq_true.mp b l hl)).1
    omega
  have y1 : isDY ["Ratio", "Table"] .tuple (nw ls) = .ret (.bl true) := rfl
  have len : bLen [nw ls] = .ret (.int (ls.length : Int)) := by
    show T.ret (D.int ((ls.map nt).length : Int)) = _
    rw [List.length_map]
  have al := all_val (p := isLD c) (ls.map nt)
  have e3 : (ls.map nt).all (isLD c) = true := by
    rw [List.all_map, ← b]
    congr 1
    funext l
    exact isLD_nt c l
  rw [e3] at al
  have big : decide ((8 : Int) < (ls.length : Int)) = false := decide_eq_false (by omega)
  simp only [f_is_word_to, runB, m_is_word_to, bSeq, sIf, sRet, tOr', tNot', eTest, eUn, eVar, eBin, eCa, eC, aCons, aNil, bNil, List.map_cons, List.map_nil, List.length_cons, List.length_nil, List.cons_append, List.nil_append, List.replicate, List.getElem?_cons_succ, List.getElem?_cons_zero, T.bind, y1, asB, cond, Bool.not_true, len, gtI, big, eL, letters_val (c := c) a b2, al]
theorem need_word_val {c : Nat} {ls : List (List Nat)} (h : isWd c ls = true) (h3 : c ≤ 3) : f_need_word [.int (c : Int), nw ls] = .ret .non := by
  have w : f_is_word [.int (c : Int), nw ls] = .ret (.bl true) := by
    simp only [f_is_word, runB, m_is_word, bSeq, sExpr, sRet, eCall, aCons, aNil, eVar, eC, List.map_cons, List.map_nil, List.length_cons, List.length_nil, List.cons_append, List.nil_append, List.replicate, List.getElem?_cons_succ, List.getElem?_cons_zero, T.bind, BEq.rfl, cond, columns_val c h3, word_to_val h h3]
  simp only [f_need_word, runB, m_need_word, sIf, tNot', eTest, eCall, aCons, aNil, eVar, List.map_cons, List.map_nil, List.length_cons, List.length_nil, List.cons_append, List.nil_append, List.getElem?_cons_succ, List.getElem?_cons_zero, T.bind, BEq.rfl, cond, w, asB, Bool.not_true, bNil]
theorem need_table_val (c : Nat) (rss : List (List Rat)) : f_need_table [tabD c rss] = .ret .non := by
  have e : isOC ["Ratio", "Table"] "Table" (tabD c rss) = .ret (.bl true) := by
    unfold tabD isOC
    simp only [sTab, cond]
  simp only [f_need_table, runB, m_need_table, sIf, tNot', eTest, eUn, eVar, bNil, List.map_cons, List.map_nil, List.cons_append, List.nil_append, List.getElem?_cons_zero, T.bind, e, asB, Bool.not_true, cond]
end Pd

/-! A word's sums ahead, over a table. -/
namespace Pd
open PySem L2 PySem.Spec PyProof.Rows
def wS (ls : List (List Nat)) (rss : List (List Rat)) : Nat → Nat → Rat := fun k a => wt (ls.getD k []) (rss.getD a [])
theorem map_range {α β : Type} (f : α → β) (l : List α) (d : α) : l.map f = (List.range l.length).map fun i => f (l.getD i d) := by
  refine List.ext_getElem (by simp) fun i h1 h2 => ?_
  have hi : i < l.length := by simpa using h1
  simp [List.getD, hi]
theorem wl_eq (ls : List (List Nat)) (rss : List (List Rat)) : (ls.map fun l => D.lst (rss.map fun rs => qR (wt l rs))) = wl (wS ls rss) ls.length rss.length := by
  unfold wl
  rw [map_range _ ls []]
  refine List.map_congr_left fun k _ => ?_
  unfold fl
  rw [map_range (fun rs => qR (wt (ls.getD k []) rs)) rss []]
  rfl
def unLt : D → List Nat
  | .tup ds => ds.map fun d => match d with
    | .int i => i.toNat
    | _ => 0
  | _ => []
theorem un_lt (l : List Nat) : unLt (nt l) = l := by
  show (l.map nI).map _ = l
  rw [List.map_map]
  exact (List.map_congr_left fun p _ => Int.toNat_natCast p).trans (List.map_id _)
@[irreducible] def saE : Rho → T D := eL (lComp [3] (iTp (eVar 1)) (gNm 3) yesT (eL (lCallF 2 wsF (aCons (eVar 3) (aCons (eVar 2) aNil)))))
theorem saE_all {x : Ent} {ls : List (List Nat)} {rss : List (List Rat)} (h : rss.length ≤ 40) (hr : ∀ rs ∈ rss, ∀ r ∈ rs, Sz 2 r) (h8 : ls.length ≤ 8) (hp : ∀ l ∈ ls, (∀ p ∈ l, p ≤ 8) ∧ l.length ≤ 3) : T.all (fun d => d = .lst (wl (wS ls rss) ls.length rss.length)) (saE [x, .val (nw ls), .val (.lst (rss.map rowD)), .un]) := by
  unfold saE
  refine T.all_bind.mpr ?_
  show T.all _ (compT (gNm 3) yesT (eL (lCallF 2 wsF (aCons (eVar 3) (aCons (eVar 2) aNil)))) [x, .val (nw ls), .val (.lst (rss.map rowD)), .un] (ls.map nt) [])
  refine T.all_mono (fun es he => ?_) (compT_all (f := fun d => .lst (rss.map fun rs => qR (wt (unLt d) rs))) (by simp; omega) fun d hd => ?_)
  · rw [he, List.nil_append, List.map_map, ← wl_eq]
    show D.lst _ = D.lst _
    congr 1
    refine List.map_congr_left fun l _ => ?_
    show D.lst (rss.map fun rs => qR (wt (unLt (nt l)) rs)) = _
    rw [un_lt]
  · obtain ⟨l, hl, rfl⟩ := List.mem_map.mp hd
    show T.all _ (eL (lCallF 2 wsF (aCons (eVar 3) (aCons (eVar 2) aNil))) [x, .val (nw ls), .val (.lst (rss.map rowD)), .val (nt l)])
    rw [un_lt]
    refine T.all_bind.mpr (T.all_bind.mpr ?_)
    show T.all _ (wsF [nt l, .lst (rss.map rowD)])
    refine T.all_mono (fun es he => ?_) (worths_all h hr (hp l hl).1 (hp l hl).2)
    subst he
    rfl
@[irreducible] def rwF : List D → T D := asD f_Table_rows
@[irreducible] def tcF : List D → T D := f_Table_columns
@[irreducible] def thF : List D → T D := f_Table_height
theorem sa_eq : m_sums_ahead = bSeqL (sExpr (eCall 1 f_need_table (aCons (eVar 0) aNil))) (bSeqL (sExpr (eCall 2 f_need_word (aCons (eProp "Table" tcF (eVar 0)) (aCons (eVar 1) aNil)))) (bSeqL (sSet 2 (eMeth "Table" "rows" 0 rwF (eVar 0) aNil)) (lCallF 2 soF (aCons saE (aCons (eProp "Table" thF (eVar 0)) aNil))))) := by
  unfold m_sums_ahead saE rwF tcF thF soF wsF
  rfl
theorem isC_tab (c : Nat) (rss : List (List Rat)) : isC "Table" (tabD c rss) = .ret () := by
  unfold tabD isC
  simp only [sTab, cond]
theorem sRow2 : (("rows" : Str) == "_columns") = false ∧ (("rows" : Str) == "_rows") = false := by decide +kernel
theorem insD_tab (c : Nat) (rss : List (List Rat)) : insD "Table" "rows" (tabD c rss) = .ret () := by
  unfold tabD insD tabF
  simp [sTab, fieldD, sRow2.1, sRow2.2]
theorem prop_tab {F : List D → T D} {ρ : Rho} {i c : Nat} {rss : List (List Rat)} (h : ρ[i]? = some (.val (tabD c rss))) : eProp "Table" F (eVar i) ρ = F [tabD c rss] := by
  simp only [eProp, eVar, h, T.bind, isC_tab]
theorem meth_tab {ρ : Rho} {i c : Nat} {rss : List (List Rat)} (h : ρ[i]? = some (.val (tabD c rss))) (h40 : rss.length ≤ 40) (h3 : ∀ rs ∈ rss, rs.length ≤ 3) : eMeth "Table" "rows" 0 rwF (eVar i) aNil ρ = .ret (.lst (rss.map rowD)) := by
  have e : rwF [tabD c rss] = .ret (.lst (rss.map rowD)) := by
    unfold rwF asD
    rw [rows_of h40 h3]
    rfl
  simp only [eMeth, eVar, h, T.bind, insD_tab, aNil, List.length_nil, BEq.rfl, cond, e]
@[irreducible] def saF : List D → T (List D) := f_sums_ahead
theorem sums_ahead_all {c : Nat} {ls : List (List Nat)} {rss : List (List Rat)} (h3 : c ≤ 3) (h40 : rss.length ≤ 40) (hc : ∀ rs ∈ rss, rs.length = c) (hr : ∀ rs ∈ rss, ∀ r ∈ rs, Sz 2 r) (hw : isWd c ls = true) (B : Bd (wS ls rss) ls.length rss.length) : T.all (fun ds => ds = fl (dpS (wS ls rss) ls.length) (rss.length + 1)) (saF [tabD c rss, nw ls]) := by
  obtain ⟨a8, al⟩ := Bool.and_eq_true_iff.mp hw
  have a8 := of_decide_eq_true a8
  have hp : ∀ l ∈ ls, (∀ p ∈ l, p ≤ 8) ∧ l.length ≤ 3 := fun l hl => by
    have q := isLt_of (List.all_eq_true.mp al l hl)
    exact ⟨q.2, by omega⟩
  unfold saF f_sums_ahead runL
  rw [sa_eq]
  have s1 : sExpr (eCall 1 f_need_table (aCons (eVar 0) aNil)) [.val (tabD c rss), .val (nw ls), .un, .un] = .ret (.nx [.val (tabD c rss), .val (nw ls), .un, .un]) := by
    simp only [sExpr, eCall, aCons, aNil, eVar, List.length_cons, List.length_nil, List.getElem?_cons_zero, T.bind, BEq.rfl, cond, need_table_val]
  have tc : tcF [tabD c rss] = .ret (.int (c : Int)) := by unfold tcF; exact columns_of c rss
  have th : thF [tabD c rss] = .ret (.int (rss.length : Int)) := by unfold thF; exact height_of c rss
  have p1 : eProp "Table" tcF (eVar 0) [.val (tabD c rss), .val (nw ls), .un, .un] = .ret (.int (c : Int)) := by rw [prop_tab rfl, tc]
  have s2 : sExpr (eCall 2 f_need_word (aCons (eProp "Table" tcF (eVar 0)) (aCons (eVar 1) aNil))) [.val (tabD c rss), .val (nw ls), .un, .un] = .ret (.nx [.val (tabD c rss), .val (nw ls), .un, .un]) := by
    simp only [sExpr, eCall, aCons, aNil, p1, eVar, List.length_cons, List.length_nil, List.getElem?_cons_succ, List.getElem?_cons_zero, T.bind, BEq.rfl, cond, need_word_val hw h3]
  have s3 : sSet 2 (eMeth "Table" "rows" 0 rwF (eVar 0) aNil) [.val (tabD c rss), .val (nw ls), .un, .un] = .ret (.nx [.val (tabD c rss), .val (nw ls), .val (.lst (rss.map rowD)), .un]) := by
    unfold sSet
    rw [meth_tab rfl h40 fun rs hrs => by rw [hc rs hrs]; exact h3]
    rfl
  refine seqL_nx (all_eq s1 ⟨_, rfl, seqL_nx (all_eq s2 ⟨_, rfl, seqL_nx (all_eq s3 ⟨_, rfl, ?_⟩)⟩)⟩)
  have p2 : eProp "Table" thF (eVar 0) [.val (tabD c rss), .val (nw ls), .val (.lst (rss.map rowD)), .un] = .ret (.int (rss.length : Int)) := by rw [prop_tab rfl, th]
  refine T.all_bind.mpr (T.all_bind.mpr (T.all_mono (fun d hd => ?_) (saE_all (x := .val (tabD c rss)) h40 hr a8 hp)))
  subst hd
  refine T.all_bind.mpr (T.all_bind.mpr (all_eq p2 ?_))
  exact sums_of_all B (Nat.le_refl _) h40
end Pd

namespace Pd
open PySem L2 PySem.Spec PyProof.Rows

/-! The law's own sums, differences, products of pairs; sizes; quotients; order. -/
section
variable {P : Program} {w : World} {K : PySem.W.Frag} {mg : Str → Option Value} {base : Heap} {a_f a_low : Addr} {d_f d_low : FuncData}
end
section
variable {p q : Rat} {d : D} {m n : Nat}
theorem two_pow_add (h : a < 2 ^ n) (h2 : b < 2 ^ n) : a + b < 2 ^ (n + 1) := by
  rw [Nat.pow_succ]; omega
theorem num_sz (hp : Sz m p) (hq : Sz n q) : (p.num * (q.den : Int)).natAbs < 2 ^ (m + n) := by
  rw [Int.natAbs_mul]
  simpa using Sz.mulP hp.num hq.den
theorem num_sz' (hp : Sz m p) (hq : Sz n q) : (q.num * (p.den : Int)).natAbs < 2 ^ (m + n) := by
  rw [Nat.add_comm]
  exact num_sz hq hp
theorem sz_add (hp : Sz m p) (hq : Sz n q) : Sz (m + n + 1) (p + q) := by
  rw [← Rat.num_divInt_den p, ← Rat.num_divInt_den q, Rat.divInt_add_divInt _ _ den_ne den_ne]
  exact sz_divInt den2_ne (Nat.lt_of_le_of_lt (Int.natAbs_add_le _ _) (two_pow_add (num_sz hp hq) (num_sz' hp hq))) (Nat.lt_of_lt_of_le (den_sz hp hq) (Nat.pow_le_pow_right (by decide) (by omega)))
end

/-! Texts, what is alike, the arithmetic of worths. -/
/-! alike -/
/-! worths -/
theorem sz_pow {n : Nat} {r : Rat} (h : Sz n r) : ∀ k : Nat, Sz (1 + k * n) (r ^ k)
  | 0 => by rw [Rat.pow_zero]; exact sz_one.mono (by omega)
  | k + 1 => by
    rw [Rat.pow_succ]
    exact (sz_mul (sz_pow h k) h).mono (by rw [Nat.succ_mul]; omega)
/-! the greatest power -/
/-- a letter of small powers at a row of few bits -/
theorem sz_wt2 : ∀ (l : List Nat) (rs : List Rat), (∀ p ∈ l, p ≤ 2) → (∀ r ∈ rs, Sz 2 r) → Sz (1 + l.length * 5) (wt l rs)
  | [], rs, _, _ => by
    have : wt [] rs = 1 := by cases rs <;> rfl
    rw [this]
    exact sz_one
  | p :: ps, [], _, _ => sz_one.mono (by omega)
  | p :: ps, r :: rs, hp, hr => by
    have p2 := hp p List.mem_cons_self
    have a := (sz_pow (hr r List.mem_cons_self) p).mono (show 1 + p * 2 ≤ 5 by omega)
    exact (sz_mul a (sz_wt2 ps rs (fun x h => hp x (List.mem_cons_of_mem _ h)) fun x h => hr x (List.mem_cons_of_mem _ h))).mono (by rw [List.length_cons, Nat.succ_mul]; omega)
/-- how many bits the steps' sums have -/
def fb : Nat → Nat → Nat
  | 0, _ => 1
  | _ + 1, 0 => 1
  | k + 1, n + 1 => fb (k + 1) n + (fb k n + 20) + 1
theorem fb0 (n : Nat) : fb 0 n = 1 := by cases n <;> rfl
theorem dp_sz {w : Nat → Nat → Rat} {K N : Nat} (hw : ∀ k a, k < K → a < N → Sz 20 (w k a)) : ∀ (a k : Nat), k ≤ K → a ≤ N → Sz (fb k a) (dpS w k a)
  | a, 0, _, _ => by
    rw [dp0, fb0]
    exact sz_one
  | 0, k + 1, _, _ => by
    have e : dpS w (k + 1) 0 = 0 := rfl
    have f : fb (k + 1) 0 = 1 := rfl
    rw [e, f]
    exact ⟨by decide, by decide⟩
  | a + 1, k + 1, hk, ha => by
    have e : dpS w (k + 1) (a + 1) = dpS w (k + 1) a + dpS w k a * w k a := rfl
    have f : fb (k + 1) (a + 1) = fb (k + 1) a + (fb k a + 20) + 1 := rfl
    rw [e, f]
    exact sz_add (dp_sz hw a (k + 1) hk (by omega)) (sz_mul (dp_sz hw a k (by omega) (by omega)) (hw k a (by omega) (by omega)))
theorem fb_le : ∀ k, k ≤ 4 → ∀ a, a ≤ 8 → fb k a ≤ 4000 := by
  have h : ((List.range 5).all fun k => (List.range 9).all fun a => decide (fb k a ≤ 4000)) = true := by decide +kernel
  intro k hk a ha
  have h1 := List.all_eq_true.mp h k (List.mem_range.mpr (by omega))
  exact of_decide_eq_true (List.all_eq_true.mp h1 a (List.mem_range.mpr (by omega)))
theorem bd_of {w : Nat → Nat → Rat} {K N : Nat} (hK : K ≤ 4) (hN : N ≤ 8) (hw : ∀ k a, k < K → a < N → Sz 20 (w k a)) : Bd w K N where
  dp := fun k a hk ha => (dp_sz hw a k hk ha).mono (fb_le k (by omega) a (by omega))
  w := fun k a hk ha => (hw k a hk ha).mono (by decide)
/-- few letters of small powers, few rows of few bits -/
theorem bd_wS {ls : List (List Nat)} {rss : List (List Rat)} (h4 : ls.length ≤ 4) (h8 : rss.length ≤ 8) (hp : ∀ l ∈ ls, (∀ p ∈ l, p ≤ 2) ∧ l.length ≤ 3) (hr : ∀ rs ∈ rss, ∀ r ∈ rs, Sz 2 r) : Bd (wS ls rss) ls.length rss.length :=
  bd_of h4 h8 fun k a hk ha => by
    have e1 : ls.getD k [] = ls[k] := by simp [List.getD, hk]
    have e2 : rss.getD a [] = rss[a] := by simp [List.getD, ha]
    show Sz 20 (wt (ls.getD k []) (rss.getD a []))
    rw [e1, e2]
    have q := hp _ (List.getElem_mem hk)
    exact (sz_wt2 _ _ q.1 (hr _ (List.getElem_mem ha))).mono (by have := q.2; omega)
end Pd

/-! A word's sum, sums behind, cuts, words and tables turned, tables joined. -/
namespace Pd
open PySem L2 PySem.Spec PyProof.Rows
/-- the word's sum over the rows -/
def WS (ls : List (List Nat)) (rss : List (List Rat)) : Rat := dpS (wS ls rss) ls.length rss.length
/-- a word and rows for it, small -/
structure Okw (c : Nat) (ls : List (List Nat)) (rss : List (List Rat)) : Prop where
  c3 : c ≤ 3
  h4 : ls.length ≤ 4
  h8 : rss.length ≤ 8
  hc : ∀ rs ∈ rss, rs.length = c
  hr : ∀ rs ∈ rss, ∀ r ∈ rs, Sz 2 r
  hp : ∀ l ∈ ls, l.length = c ∧ ∀ p ∈ l, p ≤ 2
section
variable {c : Nat} {ls : List (List Nat)} {rss qss : List (List Rat)}
theorem Okw.wd (h : Okw c ls rss) : isWd c ls = true := by
  unfold isWd
  rw [decide_eq_true (show ls.length ≤ 8 from by have := h.h4; omega), Bool.true_and, List.all_eq_true]
  intro l hl
  unfold isLt
  rw [decide_eq_true (h.hp l hl).1, Bool.true_and, List.all_eq_true]
  intro p hp
  exact decide_eq_true (by have := (h.hp l hl).2 p hp; omega)
theorem Okw.bd (h : Okw c ls rss) : Bd (wS ls rss) ls.length rss.length :=
  bd_wS h.h4 h.h8 (fun l hl => ⟨(h.hp l hl).2, by rw [(h.hp l hl).1]; exact h.c3⟩) h.hr
theorem Okw.rev (h : Okw c ls rss) : Okw c ls.reverse rss.reverse where
  c3 := h.c3
  h4 := by rw [List.length_reverse]; exact h.h4
  h8 := by rw [List.length_reverse]; exact h.h8
  hc rs hrs := h.hc rs (List.mem_reverse.mp hrs)
  hr rs hrs := h.hr rs (List.mem_reverse.mp hrs)
  hp l hl := h.hp l (List.mem_reverse.mp hl)
theorem Okw.sub {ms : List (List Nat)} {qss : List (List Rat)} (h : Okw c ls rss) (a : ∀ l ∈ ms, l ∈ ls) (a2 : ms.length ≤ ls.length) (b : ∀ r ∈ qss, r ∈ rss) (b2 : qss.length ≤ rss.length) : Okw c ms qss where
  c3 := h.c3
  h4 := Nat.le_trans a2 h.h4
  h8 := Nat.le_trans b2 h.h8
  hc rs hrs := h.hc rs (b rs hrs)
  hr rs hrs := h.hr rs (b rs hrs)
  hp l hl := h.hp l (a l hl)
theorem Okw.app (h : Okw c ls rss) (g : Okw c ls qss) (l : rss.length + qss.length ≤ 8) : Okw c ls (rss ++ qss) where
  c3 := h.c3
  h4 := h.h4
  h8 := by rw [List.length_append]; exact l
  hc rs hrs := (List.mem_append.mp hrs).elim (h.hc rs) (g.hc rs)
  hr rs hrs := (List.mem_append.mp hrs).elim (h.hr rs) (g.hr rs)
  hp := h.hp
theorem getD_rev {α : Type} (l : List α) (i : Nat) (d : α) (h : i < l.length) : l.reverse.getD i d = l.getD (l.length - 1 - i) d := by
  rw [List.getD_eq_getElem?_getD, List.getD_eq_getElem?_getD, List.getElem?_reverse h]
theorem wS_rev {k a : Nat} (hk : k < ls.length) (ha : a < rss.length) : wS ls.reverse rss.reverse k a = rv (wS ls rss) ls.length rss.length k a := by
  unfold wS rv
  rw [getD_rev _ _ _ hk, getD_rev _ _ _ ha]
theorem dp_rev {a : Nat} (h : a ≤ rss.length) : dpS (wS ls.reverse rss.reverse) ls.length a = dpS (rv (wS ls rss) ls.length rss.length) ls.length a :=
  dp_congr (fun k a hk ha => wS_rev hk ha) a _ (Nat.le_refl _) h
theorem WS_rev : WS ls.reverse rss.reverse = WS ls rss := by
  unfold WS
  rw [List.length_reverse, List.length_reverse, dp_rev (Nat.le_refl _), dp_turn]
theorem getD_take {α : Type} (l : List α) (n i : Nat) (d : α) (h : i < n) : (l.take n).getD i d = l.getD i d := by
  rw [List.getD_eq_getElem?_getD, List.getD_eq_getElem?_getD, List.getElem?_take_of_lt h]
theorem getD_drop {α : Type} (l : List α) (n i : Nat) (d : α) : (l.drop n).getD i d = l.getD (n + i) d := by
  rw [List.getD_eq_getElem?_getD, List.getD_eq_getElem?_getD, List.getElem?_drop]
theorem WS_take {a : Nat} (h : a ≤ rss.length) : WS ls (rss.take a) = dpS (wS ls rss) ls.length a := by
  unfold WS
  rw [List.length_take, Nat.min_eq_left h]
  refine dp_congr (fun k b _ hb => ?_) a _ (Nat.le_refl _) (Nat.le_refl _)
  unfold wS
  rw [getD_take _ _ _ _ hb]
theorem WS_drop {a : Nat} (h : a ≤ rss.length) : WS ls (rss.drop a) = dpS (wS ls.reverse rss.reverse) ls.length (rss.length - a) := by
  rw [dp_rev (by omega), dp_behind h]
  unfold WS
  rw [List.length_drop]
  refine dp_congr (fun k b _ _ => ?_) _ _ (Nat.le_refl _) (Nat.le_refl _)
  unfold wS
  rw [getD_drop]
theorem WS_join : WS ls (rss ++ qss) = sumR ((List.range (ls.length + 1)).map fun i => WS (ls.take i) rss * WS (ls.drop i) qss) := by
  unfold WS
  rw [List.length_append, dp_join]
  refine sumR_congr fun i hi => ?_
  have hi := List.mem_range.mp hi
  rw [List.length_take, List.length_drop, Nat.min_eq_left (by omega)]
  congr 1
  · refine dp_congr (fun k b hk hb => ?_) _ _ (Nat.le_refl _) (Nat.le_refl _)
    unfold wS
    rw [getD_take _ _ _ _ hk]
    congr 1
    rw [List.getD_eq_getElem?_getD, List.getD_eq_getElem?_getD, List.getElem?_append_left hb]
  · refine dp_congr (fun k b hk hb => ?_) _ _ (Nat.le_refl _) (Nat.le_refl _)
    unfold sh wS
    rw [getD_drop]
    congr 1
    rw [List.getD_eq_getElem?_getD, List.getD_eq_getElem?_getD, List.getElem?_append_right (by omega), Nat.add_sub_cancel_left]
end
/-! word_sum -/
theorem ix_last {f : Nat → Rat} {n : Nat} : ixD (.lst (fl f (n + 1))) (.int (-1)) = .ret (qR (f n)) := by
  have l := fl_len f (n + 1)
  have e := fl_get (f := f) (n := n + 1) (i := n) (by omega)
  show ixL (fl f (n + 1)) (.int (-1)) = _
  unfold ixL
  dsimp only
  have a : atI (fl f (n + 1)) (-1) = some (qR (f n)) := by
    unfold atI ixN
    rw [l, if_neg (by omega), if_pos (by omega)]
    show (fl f (n + 1))[((-1 : Int) + ((n + 1 : Nat) : Int)).toNat]? = _
    rw [show ((-1 : Int) + ((n + 1 : Nat) : Int)).toNat = n by omega, e]
  rw [a]
@[irreducible] def wuF : List D → T D := f_word_sum
theorem wu_eq : m_word_sum = sRet (eBin ixD (eL (lCallF 2 saF (aCons (eVar 0) (aCons (eVar 1) aNil)))) (eUn uNeg (eC (.int 1)))) := by
  unfold m_word_sum saF
  rfl
section
variable {c : Nat} {ls : List (List Nat)} {rss qss : List (List Rat)}
theorem sa_all (h : Okw c ls rss) : T.all (fun ds => ds = fl (dpS (wS ls rss) ls.length) (rss.length + 1)) (saF [tabD c rss, nw ls]) :=
  sums_ahead_all h.c3 (by have := h.h8; omega) h.hc h.hr h.wd h.bd
theorem wu_all (h : Okw c ls rss) : T.all (fun d => d = qR (WS ls rss)) (wuF [tabD c rss, nw ls]) := by
  unfold wuF f_word_sum runB
  rw [wu_eq]
  refine T.all_bind.mpr (T.all_bind.mpr (bin_all (T.all_bind.mpr (T.all_bind.mpr ?_))))
  show T.all _ (saF [tabD c rss, nw ls])
  refine T.all_mono (fun ds hd => ?_) (sa_all h)
  subst hd
  refine all_eq (a := .lst (fl (dpS (wS ls rss) ls.length) (rss.length + 1))) rfl (all_eq (a := .int (-1)) rfl (all_eq ix_last ?_))
  rfl
/-! sums behind -/
@[irreducible] def sbE : Rho → T D := eL (lComp [3] (iTp (eRevT (eVar 1))) (gNm 3) yesT (eL (lCallF 2 wsF (aCons (eVar 3) (aCons (eVar 2) aNil)))))
@[irreducible] def sbF : List D → T (List D) := f_sums_behind
theorem sb_eq : m_sums_behind = bSeqL (sExpr (eCall 1 f_need_table (aCons (eVar 0) aNil))) (bSeqL (sExpr (eCall 2 f_need_word (aCons (eProp "Table" tcF (eVar 0)) (aCons (eVar 1) aNil)))) (bSeqL (sSet 2 (eL (lRev (eMeth "Table" "rows" 0 rwF (eVar 0) aNil)))) (lRev (eL (lCallF 2 soF (aCons sbE (aCons (eProp "Table" thF (eVar 0)) aNil))))))) := by
  unfold m_sums_behind sbE rwF tcF thF soF wsF
  rfl
theorem sbE_all {x : Ent} (h : rss.length ≤ 40) (hr : ∀ rs ∈ rss, ∀ r ∈ rs, Sz 2 r) (h8 : ls.length ≤ 8) (hp : ∀ l ∈ ls, (∀ p ∈ l, p ≤ 8) ∧ l.length ≤ 3) : T.all (fun d => d = .lst (wl (wS ls.reverse rss) ls.reverse.length rss.length)) (sbE [x, .val (nw ls), .val (.lst (rss.map rowD)), .un]) := by
  unfold sbE
  refine T.all_bind.mpr ?_
  show T.all _ (compT (gNm 3) yesT (eL (lCallF 2 wsF (aCons (eVar 3) (aCons (eVar 2) aNil)))) [x, .val (nw ls), .val (.lst (rss.map rowD)), .un] ((ls.map nt).reverse) [])
  rw [← List.map_reverse]
  refine T.all_mono (fun es he => ?_) (compT_all (f := fun d => .lst (rss.map fun rs => qR (wt (unLt d) rs))) (by simp; omega) fun d hd => ?_)
  · rw [he, List.nil_append, List.map_map, ← wl_eq]
    show D.lst _ = D.lst _
    congr 1
    refine List.map_congr_left fun l _ => ?_
    show D.lst (rss.map fun rs => qR (wt (unLt (nt l)) rs)) = _
    rw [un_lt]
  · obtain ⟨l, hl, rfl⟩ := List.mem_map.mp hd
    have hl := List.mem_reverse.mp hl
    show T.all _ (eL (lCallF 2 wsF (aCons (eVar 3) (aCons (eVar 2) aNil))) [x, .val (nw ls), .val (.lst (rss.map rowD)), .val (nt l)])
    rw [un_lt]
    refine T.all_bind.mpr (T.all_bind.mpr ?_)
    show T.all _ (wsF [nt l, .lst (rss.map rowD)])
    refine T.all_mono (fun es he => ?_) (worths_all h hr (hp l hl).1 (hp l hl).2)
    subst he
    rfl
theorem rev_val {m : Rho → T D} {ρ : Rho} {ds : List D} (h : m ρ = .ret (.lst ds)) : lRev m ρ = .ret ds.reverse := by
  simp only [lRev, h, T.bind, asL]
theorem sb_all (h : Okw c ls rss) : T.all (fun ds => ds = (fl (dpS (wS ls.reverse rss.reverse) ls.length) (rss.length + 1)).reverse) (sbF [tabD c rss, nw ls]) := by
  have h40 : rss.length ≤ 40 := by have := h.h8; omega
  have hp : ∀ l ∈ ls, (∀ p ∈ l, p ≤ 8) ∧ l.length ≤ 3 := fun l hl => ⟨fun p q => by have := (h.hp l hl).2 p q; omega, by rw [(h.hp l hl).1]; exact h.c3⟩
  unfold sbF f_sums_behind runL
  rw [sb_eq]
  have s1 : sExpr (eCall 1 f_need_table (aCons (eVar 0) aNil)) [.val (tabD c rss), .val (nw ls), .un, .un] = .ret (.nx [.val (tabD c rss), .val (nw ls), .un, .un]) := by
    simp only [sExpr, eCall, aCons, aNil, eVar, List.length_cons, List.length_nil, List.getElem?_cons_zero, T.bind, BEq.rfl, cond, need_table_val]
  have tc : tcF [tabD c rss] = .ret (.int (c : Int)) := by unfold tcF; exact columns_of c rss
  have th : thF [tabD c rss] = .ret (.int (rss.length : Int)) := by unfold thF; exact height_of c rss
  have p1 : eProp "Table" tcF (eVar 0) [.val (tabD c rss), .val (nw ls), .un, .un] = .ret (.int (c : Int)) := by rw [prop_tab rfl, tc]
  have s2 : sExpr (eCall 2 f_need_word (aCons (eProp "Table" tcF (eVar 0)) (aCons (eVar 1) aNil))) [.val (tabD c rss), .val (nw ls), .un, .un] = .ret (.nx [.val (tabD c rss), .val (nw ls), .un, .un]) := by
    simp only [sExpr, eCall, aCons, aNil, p1, eVar, List.length_cons, List.length_nil, List.getElem?_cons_succ, List.getElem?_cons_zero, T.bind, BEq.rfl, cond, need_word_val h.wd h.c3]
  have s3 : sSet 2 (eL (lRev (eMeth "Table" "rows" 0 rwF (eVar 0) aNil))) [.val (tabD c rss), .val (nw ls), .un, .un] = .ret (.nx [.val (tabD c rss), .val (nw ls), .val (.lst (rss.reverse.map rowD)), .un]) := by
    unfold sSet eL
    rw [rev_val (meth_tab rfl h40 fun rs hrs => by rw [h.hc rs hrs]; exact h.c3), ← List.map_reverse]
    rfl
  refine seqL_nx (all_eq s1 ⟨_, rfl, seqL_nx (all_eq s2 ⟨_, rfl, seqL_nx (all_eq s3 ⟨_, rfl, ?_⟩)⟩)⟩)
  have p2 : eProp "Table" thF (eVar 0) [.val (tabD c rss), .val (nw ls), .val (.lst (rss.reverse.map rowD)), .un] = .ret (.int (rss.length : Int)) := by rw [prop_tab rfl, th]
  refine T.all_bind.mpr (T.all_bind.mpr ?_)
  have so : T.all (fun ds => ds = fl (dpS (wS ls.reverse rss.reverse) ls.length) (rss.length + 1)) (lCallF 2 soF (aCons sbE (aCons (eProp "Table" thF (eVar 0)) aNil)) [.val (tabD c rss), .val (nw ls), .val (.lst (rss.reverse.map rowD)), .un]) := by
    refine T.all_bind.mpr (T.all_bind.mpr (T.all_mono (fun d hd => ?_) (sbE_all (x := .val (tabD c rss)) (rss := rss.reverse) (by rw [List.length_reverse]; exact h40) h.rev.hr (by have := h.h4; omega) hp)))
    subst hd
    refine T.all_bind.mpr (T.all_bind.mpr (all_eq p2 ?_))
    have b := h.rev.bd
    have s := sums_of_all b (Nat.le_refl _) (by rw [List.length_reverse]; exact h40)
    rw [List.length_reverse, List.length_reverse] at s ⊢
    exact s
  refine T.all_mono (fun ds hd => ?_) so
  subst hd
  rfl
end
end Pd

/-! Cuts, what is turned, what is joined. -/
namespace Pd
open PySem L2 PySem.Spec PyProof.Rows
theorem upto_nI : ∀ (n j : Nat), upto (j : Int) n = (List.range' j n).map nI
  | 0, j => rfl
  | n + 1, j => by
    show D.int (j : Int) :: upto ((j : Int) + 1) n = nI j :: (List.range' (j + 1) n).map nI
    have e := upto_nI n (j + 1)
    rw [show ((j + 1 : Nat) : Int) = (j : Int) + 1 by omega] at e
    rw [e]
    rfl
theorem upto_range (n : Nat) : upto 0 n = (List.range n).map nI := by
  have := upto_nI n 0
  rw [List.range_eq_range']
  exact this
theorem cut_lo {xs : List D} {i : Nat} (h : i ≤ xs.length) : cutD xs none (some (i : Int)) = xs.take i := by
  unfold cutD
  rw [HT.sIx_none, HT.sIx_nat, List.drop_zero, Nat.sub_zero, Nat.min_eq_left h]
theorem cut_hi {xs : List D} {i : Nat} (h : i ≤ xs.length) : cutD xs (some (i : Int)) none = xs.drop i := by
  unfold cutD
  rw [HT.sIx_none, HT.sIx_nat, Nat.min_eq_left h]
  exact List.take_of_length_le (by rw [List.length_drop]; exact Nat.le_refl _)
theorem sl_lo {ρ : Rho} {p q i : Nat} {ds : List D} (hp : ρ[p]? = some (.val (.tup ds))) (hq : ρ[q]? = some (.val (nI i))) (h : i ≤ ds.length) : eSl (eVar p) oNo (oPart (eVar q)) ρ = .ret (.tup (ds.take i)) := by
  unfold nI at hq
  simp only [eSl, eVar, oNo, oPart, hp, hq, T.bind, slD, cut_lo h]
theorem sl_hi {ρ : Rho} {p q i : Nat} {ds : List D} (hp : ρ[p]? = some (.val (.tup ds))) (hq : ρ[q]? = some (.val (nI i))) (h : i ≤ ds.length) : eSl (eVar p) (oPart (eVar q)) oNo ρ = .ret (.tup (ds.drop i)) := by
  unfold nI at hq
  simp only [eSl, eVar, oNo, oPart, hp, hq, T.bind, slD, cut_hi h]
theorem sl_loL {ρ : Rho} {p q i : Nat} {ds : List D} (hp : ρ[p]? = some (.val (.lst ds))) (hq : ρ[q]? = some (.val (nI i))) (h : i ≤ ds.length) : eSl (eVar p) oNo (oPart (eVar q)) ρ = .ret (.lst (ds.take i)) := by
  unfold nI at hq
  simp only [eSl, eVar, oNo, oPart, hp, hq, T.bind, slD, cut_lo h]
theorem sl_hiL {ρ : Rho} {p q i : Nat} {ds : List D} (hp : ρ[p]? = some (.val (.lst ds))) (hq : ρ[q]? = some (.val (nI i))) (h : i ≤ ds.length) : eSl (eVar p) (oPart (eVar q)) oNo ρ = .ret (.lst (ds.drop i)) := by
  unfold nI at hq
  simp only [eSl, eVar, oNo, oPart, hp, hq, T.bind, slD, cut_hi h]
/-- the cuts, as told -/
def cutsD (ls : List (List Nat)) : List D := (List.range (ls.length + 1)).map fun i => .tup [nw (ls.take i), nw (ls.drop i)]
def unI : D → Nat
  | .int i => i.toNat
  | _ => 0
theorem un_I (i : Nat) : unI (nI i) = i := Int.toNat_natCast i
theorem cutE {ρ : Rho} {p q : Nat} {ls : List (List Nat)} (hp : ρ[p]? = some (.val (nw ls))) (h8 : ls.length ≤ 8) {i : Nat} (hq : ρ[q]? = some (.val (nI i))) (hi : i ≤ ls.length) : eTup (aCons (eSl (eVar p) oNo (oPart (eVar q))) (aCons (eSl (eVar p) (oPart (eVar q)) oNo) aNil)) ρ = .ret (.tup [nw (ls.take i), nw (ls.drop i)]) := by
  have a := sl_lo (p := p) (q := q) (ds := ls.map nt) hp hq (by rw [List.length_map]; exact hi)
  have b := sl_hi (p := p) (q := q) (ds := ls.map nt) hp hq (by rw [List.length_map]; exact hi)
  have s : ∀ x y : D, small [x, y] = true := fun x y => small_of (by simp)
  rw [← List.map_take] at a
  rw [← List.map_drop] at b
  simp only [eTup, aCons, aNil, a, b, T.bind, s, cond]
  rfl
theorem cuts_comp {ρ : Rho} {p q : Nat} {ls : List (List Nat)} (hp : ρ[p]? = some (.val (nw ls))) (ne : q ≠ p) (hq : q < ρ.length) (h8 : ls.length ≤ 8) : lComp [q] (iRg rng1 (aCons (eBin opAdd (eCa bLen (aCons (eVar p) aNil)) (eC (.int 1))) aNil)) (gNm q) yesT (eTup (aCons (eSl (eVar p) oNo (oPart (eVar q))) (aCons (eSl (eVar p) (oPart (eVar q)) oNo) aNil))) ρ = .ret (cutsD ls) := by
  have len : bLen [nw ls] = .ret (.int (ls.length : Int)) := by
    show T.ret (D.int ((ls.map nt).length : Int)) = _
    rw [List.length_map]
  have e1 : eBin opAdd (eCa bLen (aCons (eVar p) aNil)) (eC (.int 1)) ρ = .ret (.int ((ls.length + 1 : Nat) : Int)) := by
    simp only [eBin, eCa, aCons, aNil, eVar, eC, hp, T.bind, len, opAdd]
    rw [show ((ls.length + 1 : Nat) : Int) = (ls.length : Int) + 1 by omega]
  unfold lComp
  rw [rng_val e1 (by omega)]
  show compT (gNm q) yesT _ (wipeR ρ [q]) (upto 0 (ls.length + 1)) [] = _
  rw [upto_range, compT_map (f := fun d => .tup [nw (ls.take (unI d)), nw (ls.drop (unI d))]) (by simp; omega) fun d hd => ?_]
  · rw [List.nil_append, List.map_map]
    unfold cutsD
    congr 1
  · obtain ⟨i, hi, rfl⟩ := List.mem_map.mp hd
    have hi := List.mem_range.mp hi
    rw [un_I]
    refine cutE (ls := ls) ?_ h8 ?_ (by omega)
    · show ((wipeR ρ [q]).set q _)[p]? = _
      rw [List.getElem?_set_ne ne]
      show (ρ.set q .un)[p]? = _
      rw [List.getElem?_set_ne ne]
      exact hp
    · show ((ρ.set q .un).set q _)[q]? = _
      rw [List.getElem?_set_self (by simp; exact hq)]
@[irreducible] def nwF : List D → T D := f_need_word
theorem nwF_val {c : Nat} {ls : List (List Nat)} (h : isWd c ls = true) (h3 : c ≤ 3) : nwF [.int (c : Int), nw ls] = .ret .non := by
  unfold nwF
  exact need_word_val h h3
@[irreducible] def cuF : List D → T (List D) := f_cuts
@[irreducible] def cuE (p q : Nat) : Rho → T (List D) := lComp [q] (iRg rng1 (aCons (eBin opAdd (eCa bLen (aCons (eVar p) aNil)) (eC (.int 1))) aNil)) (gNm q) yesT (eTup (aCons (eSl (eVar p) oNo (oPart (eVar q))) (aCons (eSl (eVar p) (oPart (eVar q)) oNo) aNil)))
theorem cuE_val {ρ : Rho} {p q : Nat} {ls : List (List Nat)} (hp : ρ[p]? = some (.val (nw ls))) (ne : q ≠ p) (hq : q < ρ.length) (h8 : ls.length ≤ 8) : cuE p q ρ = .ret (cutsD ls) := by
  unfold cuE
  exact cuts_comp hp ne hq h8
theorem cu_eq : m_cuts = bSeqL (sExpr (eCall 2 nwF (aCons (eVar 0) (aCons (eVar 1) aNil)))) (cuE 1 2) := by
  unfold m_cuts cuE nwF
  rfl
section
variable {c : Nat} {ls : List (List Nat)} {rss qss : List (List Rat)}
theorem cu_all (h : isWd c ls = true) (c3 : c ≤ 3) : T.all (fun ds => ds = cutsD ls) (cuF [.int (c : Int), nw ls]) := by
  have h8 : ls.length ≤ 8 := of_decide_eq_true (Bool.and_eq_true_iff.mp h).1
  unfold cuF f_cuts runL
  rw [cu_eq]
  have s2 : sExpr (eCall 2 nwF (aCons (eVar 0) (aCons (eVar 1) aNil))) [.val (.int (c : Int)), .val (nw ls), .un] = .ret (.nx [.val (.int (c : Int)), .val (nw ls), .un]) := by
    simp only [sExpr, eCall, aCons, aNil, eVar, List.length_cons, List.length_nil, List.getElem?_cons_succ, List.getElem?_cons_zero, T.bind, BEq.rfl, cond, nwF_val h c3]
  have e := cuE_val (ρ := [.val (.int (c : Int)), .val (nw ls), .un]) (p := 1) (q := 2) (ls := ls) rfl (by decide) (by simp) h8
  refine seqL_nx (all_eq s2 ⟨_, rfl, ?_⟩)
  rw [e]
  rfl
theorem revT_val {ρ : Rho} {p : Nat} (hp : ρ[p]? = some (.val (nw ls))) : eRevT (eVar p) ρ = .ret (nw ls.reverse) := by
  have e : eRevT (eVar p) ρ = .ret (.tup (ls.map nt).reverse) := by
    simp only [eRevT, eVar, hp, T.bind, nw, asTp]
  rw [e]
  unfold nw
  rw [List.map_reverse]
@[irreducible] def twF : List D → T D := f_turned_word
@[irreducible] def twE : Rho → T D := eRevT (eVar 1)
theorem tw_eq : m_turned_word = bSeq (sExpr (eCall 2 nwF (aCons (eVar 0) (aCons (eVar 1) aNil)))) (sRet twE) := by
  unfold m_turned_word twE nwF
  rfl
theorem tw_all (h : isWd c ls = true) (c3 : c ≤ 3) : T.all (fun d => d = nw ls.reverse) (twF [.int (c : Int), nw ls]) := by
  unfold twF f_turned_word runB
  rw [tw_eq]
  have s2 : sExpr (eCall 2 nwF (aCons (eVar 0) (aCons (eVar 1) aNil))) [.val (.int (c : Int)), .val (nw ls)] = .ret (.nx [.val (.int (c : Int)), .val (nw ls)]) := by
    simp only [sExpr, eCall, aCons, aNil, eVar, List.length_cons, List.length_nil, List.getElem?_cons_succ, List.getElem?_cons_zero, T.bind, BEq.rfl, cond, nwF_val h c3]
  have e : twE [.val (.int (c : Int)), .val (nw ls)] = .ret (nw ls.reverse) := by
    unfold twE
    exact revT_val rfl
  show T.all _ ((bSeq _ _ [.val (.int (c : Int)), .val (nw ls)]).bind _)
  refine T.all_bind.mpr (seq_nx (all_eq s2 ⟨_, rfl, T.all_bind.mpr (all_eq e ?_)⟩))
  rfl
/-! tables -/
theorem numL_of : ∀ rs : List Rat, NumL (rs.map qR) rs
  | [] => .nil
  | r :: rs => .cons (.q r) (numL_of rs)
theorem rowsL_of : ∀ {rss : List (List Rat)}, (∀ rs ∈ rss, rs.length = c) → RowsL c (rss.map rowD) rss
  | [], _ => .nil
  | rs :: rss, h => .cons (.inl rfl) (numL_of rs) (by rw [List.length_map]; exact h rs List.mem_cons_self) (rowsL_of fun r hr => h r (List.mem_cons_of_mem _ hr))
theorem makeT {ρ : Rho} {a b : Rho → T D} {vs : List D} (ha : a ρ = .ret (.int (c : Int))) (hb : b ρ = .ret (.lst vs)) (h : RowsL c vs rss) (c3 : c ≤ 3) (h40 : vs.length ≤ 40) : eMake "Table" 2 [] f_Table_init (aCons a (aCons b aNil)) ρ = .ret (tabD c rss) := by
  have t := table_val h c3 h40
  simp only [eMake, aCons, aNil, ha, hb, T.bind, List.length_cons, List.length_nil, BEq.rfl, cond, List.append_nil, t]
  rfl
@[irreducible] def tuF : List D → T D := f_turned
@[irreducible] def tuE : Rho → T D := eMake "Table" 2 [] f_Table_init (aCons (eProp "Table" tcF (eVar 0)) (aCons (eL (lRev (eMeth "Table" "rows" 0 rwF (eVar 0) aNil))) aNil))
theorem tu_eq : m_turned = bSeq (sExpr (eCall 1 f_need_table (aCons (eVar 0) aNil))) (sRet tuE) := by
  unfold m_turned tuE rwF tcF
  rfl
theorem tu_all (h40 : rss.length ≤ 40) (c3 : c ≤ 3) (hc : ∀ rs ∈ rss, rs.length = c) : T.all (fun d => d = tabD c rss.reverse) (tuF [tabD c rss]) := by
  unfold tuF f_turned runB
  rw [tu_eq]
  have s1 : sExpr (eCall 1 f_need_table (aCons (eVar 0) aNil)) [.val (tabD c rss)] = .ret (.nx [.val (tabD c rss)]) := by
    simp only [sExpr, eCall, aCons, aNil, eVar, List.length_cons, List.length_nil, List.getElem?_cons_zero, T.bind, BEq.rfl, cond, need_table_val]
  have tc : tcF [tabD c rss] = .ret (.int (c : Int)) := by unfold tcF; exact columns_of c rss
  have p1 : eProp "Table" tcF (eVar 0) [.val (tabD c rss)] = .ret (.int (c : Int)) := by rw [prop_tab rfl, tc]
  have p2 : eL (lRev (eMeth "Table" "rows" 0 rwF (eVar 0) aNil)) [.val (tabD c rss)] = .ret (.lst (rss.reverse.map rowD)) := by
    unfold eL
    rw [rev_val (meth_tab rfl h40 fun rs hrs => by rw [hc rs hrs]; exact c3), ← List.map_reverse]
    rfl
  have hc' : ∀ rs ∈ rss.reverse, rs.length = c := fun rs hrs => hc rs (List.mem_reverse.mp hrs)
  have e : tuE [.val (tabD c rss)] = .ret (tabD c rss.reverse) := by
    unfold tuE
    exact makeT p1 p2 (rowsL_of hc') c3 (by simp; exact h40)
  show T.all _ ((bSeq _ _ [.val (tabD c rss)]).bind _)
  refine T.all_bind.mpr (seq_nx (all_eq s1 ⟨_, rfl, T.all_bind.mpr (all_eq e ?_)⟩))
  rfl
@[irreducible] def joF : List D → T D := f_joined
@[irreducible] def joE : Rho → T D := eMake "Table" 2 [] f_Table_init (aCons (eProp "Table" tcF (eVar 0)) (aCons (eBin opAdd (eMeth "Table" "rows" 0 rwF (eVar 0) aNil) (eMeth "Table" "rows" 0 rwF (eVar 1) aNil)) aNil))
@[irreducible] def joH : Rho → T D := eBin opAdd (eProp "Table" thF (eVar 0)) (eProp "Table" thF (eVar 1))
theorem jo_eq : m_joined = bSeq (sExpr (eCall 1 f_need_table (aCons (eVar 0) aNil))) (bSeq (sExpr (eCall 1 f_need_table (aCons (eVar 1) aNil))) (bSeq (sExpr (eCall 2 f_need_like_columns (aCons (eVar 0) (aCons (eVar 1) aNil)))) (bSeq (sExpr (eCall 1 f_need_place_for_rows (aCons joH aNil))) (sRet joE)))) := by
  unfold m_joined joE joH rwF tcF thF
  rfl
theorem like_val : f_need_like_columns [tabD c rss, tabD c qss] = .ret .non := by
  have a : eProp "Table" f_Table_columns (eVar 0) [.val (tabD c rss), .val (tabD c qss)] = .ret (.int (c : Int)) := by rw [prop_tab rfl, columns_of]
  have b : eProp "Table" f_Table_columns (eVar 1) [.val (tabD c rss), .val (tabD c qss)] = .ret (.int (c : Int)) := by rw [prop_tab rfl, columns_of]
  simp only [f_need_like_columns, runB, m_need_like_columns, sIf, eTest, eBin, bNil, List.map_cons, List.map_nil, List.cons_append, List.nil_append, List.length_cons, List.length_nil, a, b, T.bind, neI', decide_true, Bool.not_true, asB, cond]
  simp [a, b, T.bind, neI', asB]
theorem place_val {n : Nat} (h : n ≤ 40) : f_need_place_for_rows [.int (n : Int)] = .ret .non := by
  have big : decide ((40 : Int) < (n : Int)) = false := decide_eq_false (by omega)
  simp only [f_need_place_for_rows, runB, m_need_place_for_rows, sIf, eTest, eBin, eVar, eC, bNil, List.map_cons, List.map_nil, List.cons_append, List.nil_append, List.getElem?_cons_zero, T.bind, gtI, big, asB, cond]
theorem jo_all (h40 : rss.length + qss.length ≤ 40) (c3 : c ≤ 3) (hc : ∀ rs ∈ rss, rs.length = c) (hc2 : ∀ rs ∈ qss, rs.length = c) : T.all (fun d => d = tabD c (rss ++ qss)) (joF [tabD c rss, tabD c qss]) := by
  unfold joF f_joined runB
  rw [jo_eq]
  have s1 : sExpr (eCall 1 f_need_table (aCons (eVar 0) aNil)) [.val (tabD c rss), .val (tabD c qss)] = .ret (.nx [.val (tabD c rss), .val (tabD c qss)]) := by
    simp only [sExpr, eCall, aCons, aNil, eVar, List.length_cons, List.length_nil, List.getElem?_cons_zero, T.bind, BEq.rfl, cond, need_table_val]
  have s2 : sExpr (eCall 1 f_need_table (aCons (eVar 1) aNil)) [.val (tabD c rss), .val (tabD c qss)] = .ret (.nx [.val (tabD c rss), .val (tabD c qss)]) := by
    simp only [sExpr, eCall, aCons, aNil, eVar, List.length_cons, List.length_nil, List.getElem?_cons_succ, List.getElem?_cons_zero, T.bind, BEq.rfl, cond, need_table_val]
  have s3 : sExpr (eCall 2 f_need_like_columns (aCons (eVar 0) (aCons (eVar 1) aNil))) [.val (tabD c rss), .val (tabD c qss)] = .ret (.nx [.val (tabD c rss), .val (tabD c qss)]) := by
    simp only [sExpr, eCall, aCons, aNil, eVar, List.length_cons, List.length_nil, List.getElem?_cons_succ, List.getElem?_cons_zero, T.bind, BEq.rfl, cond, like_val]
  have th : ∀ r, thF [tabD c r] = .ret (.int (r.length : Int)) := fun r => by unfold thF; exact height_of c r
  have tc : ∀ r, tcF [tabD c r] = .ret (.int (c : Int)) := fun r => by unfold tcF; exact columns_of c r
  have h0 : eProp "Table" thF (eVar 0) [.val (tabD c rss), .val (tabD c qss)] = .ret (.int (rss.length : Int)) := by rw [prop_tab rfl, th]
  have h1 : eProp "Table" thF (eVar 1) [.val (tabD c rss), .val (tabD c qss)] = .ret (.int (qss.length : Int)) := by rw [prop_tab rfl, th]
  have hh : joH [.val (tabD c rss), .val (tabD c qss)] = .ret (.int ((rss.length + qss.length : Nat) : Int)) := by
    unfold joH
    simp only [eBin, h0, h1, T.bind, opAdd]
    rw [Int.natCast_add]
  have s4 : sExpr (eCall 1 f_need_place_for_rows (aCons joH aNil)) [.val (tabD c rss), .val (tabD c qss)] = .ret (.nx [.val (tabD c rss), .val (tabD c qss)]) := by
    simp only [sExpr, eCall, aCons, aNil, hh, List.length_cons, List.length_nil, T.bind, BEq.rfl, cond, place_val h40]
  have p1 : eProp "Table" tcF (eVar 0) [.val (tabD c rss), .val (tabD c qss)] = .ret (.int (c : Int)) := by rw [prop_tab rfl, tc]
  have m0 : eMeth "Table" "rows" 0 rwF (eVar 0) aNil [.val (tabD c rss), .val (tabD c qss)] = .ret (.lst (rss.map rowD)) := meth_tab rfl (by omega) fun rs hrs => by rw [hc rs hrs]; exact c3
  have m1 : eMeth "Table" "rows" 0 rwF (eVar 1) aNil [.val (tabD c rss), .val (tabD c qss)] = .ret (.lst (qss.map rowD)) := meth_tab rfl (by omega) fun rs hrs => by rw [hc2 rs hrs]; exact c3
  have sm : small (rss.map rowD ++ qss.map rowD) = true := small_of (by simp; omega)
  have p2 : eBin opAdd (eMeth "Table" "rows" 0 rwF (eVar 0) aNil) (eMeth "Table" "rows" 0 rwF (eVar 1) aNil) [.val (tabD c rss), .val (tabD c qss)] = .ret (.lst ((rss ++ qss).map rowD)) := by
    show ((eMeth "Table" "rows" 0 rwF (eVar 0) aNil _).bind fun x => (eMeth "Table" "rows" 0 rwF (eVar 1) aNil _).bind fun y => opAdd x y) = _
    rw [m0, m1]
    show opAdd (.lst (rss.map rowD)) (.lst (qss.map rowD)) = _
    unfold opAdd
    dsimp only
    rw [sm, List.map_append]
    rfl
  have hc' : ∀ rs ∈ rss ++ qss, rs.length = c := fun rs hrs => (List.mem_append.mp hrs).elim (hc rs) (hc2 rs)
  have e : joE [.val (tabD c rss), .val (tabD c qss)] = .ret (tabD c (rss ++ qss)) := by
    unfold joE
    exact makeT p1 p2 (rowsL_of hc') c3 (by simp; exact h40)
  show T.all _ ((bSeq _ _ [.val (tabD c rss), .val (tabD c qss)]).bind _)
  refine T.all_bind.mpr (seq_nx (all_eq s1 ⟨_, rfl, seq_nx (all_eq s2 ⟨_, rfl, seq_nx (all_eq s3 ⟨_, rfl, seq_nx (all_eq s4 ⟨_, rfl, T.all_bind.mpr (all_eq e ?_)⟩)⟩)⟩)⟩))
  rfl
end
end Pd

/-! The law's own choices and sums. -/
namespace Pd
open PySem L2 PySem.Spec PyProof.Rows
/-- plain data, not deep -/
def PyOk (n : Nat) (d : D) : Prop := ∃ p, d.py = some p ∧ p.canLay0 = true ∧ p.depth ≤ n
def PysOk (n : Nat) (ds : List D) : Prop := ∃ ps, D.pys ds = some ps ∧ PyData.canLayAll0 ps = true ∧ PyData.depthAll ps ≤ n
theorem pys_ok {n : Nat} : ∀ {ds : List D}, (∀ d ∈ ds, PyOk n d) → PysOk n ds
  | [], _ => ⟨[], rfl, rfl, Nat.zero_le _⟩
  | d :: ds, h => by
    obtain ⟨p, e, a, b⟩ := h d List.mem_cons_self
    obtain ⟨ps, e2, a2, b2⟩ := pys_ok fun x hx => h x (List.mem_cons_of_mem _ hx)
    refine ⟨p :: ps, ?_, ?_, ?_⟩
    · unfold D.pys
      rw [e, e2]
    · show (p.canLay0 && PyData.canLayAll0 ps) = true
      rw [a, a2]
      rfl
    · show max p.depth (PyData.depthAll ps) ≤ n
      exact Nat.max_le.mpr ⟨b, b2⟩
theorem py_int (i : Int) : PyOk 0 (.int i) := ⟨_, rfl, rfl, Nat.le_refl _⟩
theorem py_lst {n : Nat} {ds : List D} (h : ∀ d ∈ ds, PyOk n d) : PyOk (n + 1) (.lst ds) := by
  obtain ⟨ps, e, a, b⟩ := pys_ok h
  refine ⟨.list ps, ?_, a, Nat.succ_le_succ b⟩
  unfold D.py
  rw [e]
theorem py_tup {n : Nat} {ds : List D} (h : ∀ d ∈ ds, PyOk n d) : PyOk (n + 1) (.tup ds) := by
  obtain ⟨ps, e, a, b⟩ := pys_ok h
  refine ⟨.tuple ps, ?_, a, Nat.succ_le_succ b⟩
  unfold D.py
  rw [e]
theorem ne_nil {n : Nat} {ds : List D} (h : PyOk n (.lst ds)) (l : n ≤ 64) : opNeF (.lst ds) (.lst []) = .ret (.bl (!ds.isEmpty)) := by
  obtain ⟨p, e, a, b⟩ := h
  have sp : SeqAt.shaped p = true := by
    unfold SeqAt.shaped
    rw [a, decide_eq_true (by omega)]
    rfl
  have e0 : D.py (.lst []) = some (.list []) := rfl
  have s0 : SeqAt.shaped (.list []) = true := rfl
  have q : eqD (.lst ds) (.lst []) = some (ds.isEmpty) := by
    unfold eqD
    rw [e, e0]
    dsimp only
    rw [sp, s0]
    show some (PyData.eqv p (.list [])) = _
    congr 1
    unfold D.py at e
    cases ds with
    | nil => cases e; rfl
    | cons d ds =>
      split at e
      · rename_i ks hk
        cases e
        have : ks ≠ [] := by
          rintro rfl
          unfold D.pys at hk
          split at hk
          · cases hk
          · split at hk <;> cases hk
        cases ks with
        | nil => exact absurd rfl this
        | cons k ks => rfl
      · cases e
  show opNe (.lst ds) (.lst []) = _
  unfold opNe
  rw [q]
/-! choices -/
def nl (l : List Nat) : D := .lst (l.map nI)
def chD (n k : Nat) : List D := (chs n k).map nl
theorem nl_ne (l : List Nat) : opNeF (nl l) (.lst []) = .ret (.bl (!l.isEmpty)) := by
  have h : PyOk 1 (nl l) := py_lst fun d hd => by
    obtain ⟨n, _, rfl⟩ := List.mem_map.mp hd
    exact py_int _
  have e := ne_nil h (by decide)
  rw [show (l.map nI).isEmpty = l.isEmpty by cases l <;> rfl] at e
  exact e
def stE : Rho → T D := eIf (eTest (eBin opNeF (eVar 5) (eL (lLst aNil)))) (eBin opAdd (eBin ixD (eVar 5) (eUn uNeg (eC (.int 1)))) (eC (.int 1))) (eC (.int 0))
theorem nl_last {l : List Nat} {a : Nat} : ixD (nl (l ++ [a])) (.int (-1)) = .ret (nI a) := by
  show ixL ((l ++ [a]).map nI) (.int (-1)) = _
  unfold ixL
  dsimp only
  have e : atI ((l ++ [a]).map nI) (-1) = some (nI a) := by
    unfold atI ixN
    have h : ((l ++ [a]).map nI).length = l.length + 1 := by simp
    rw [h, if_neg (by omega), if_pos (by omega)]
    show ((l ++ [a]).map nI)[((-1 : Int) + ((l.length + 1 : Nat) : Int)).toNat]? = _
    rw [show ((-1 : Int) + ((l.length + 1 : Nat) : Int)).toNat = l.length by omega, List.getElem?_map, List.getElem?_append_right (Nat.le_refl _), Nat.sub_self]
    rfl
  rw [e]
theorem stE_val {ρ : Rho} {l : List Nat} (h : ρ[5]? = some (.val (nl l))) : stE ρ = .ret (nI (st l)) := by
  have e0 : eL (lLst aNil) ρ = .ret (.lst []) := rfl
  have t : eTest (eBin opNeF (eVar 5) (eL (lLst aNil))) ρ = .ret (!l.isEmpty) := by
    simp only [eTest, eBin, e0, eVar, h, T.bind, nl_ne, asB]
  unfold stE eIf
  rw [t]
  rcases List.eq_nil_or_concat l with rfl | ⟨m, a, rfl⟩
  · rfl
  · have ne : (m ++ [a]).isEmpty = false := by cases m <;> rfl
    rw [List.concat_eq_append] at h t ⊢
    rw [ne]
    show eBin opAdd (eBin ixD (eVar 5) (eUn uNeg (eC (.int 1)))) (eC (.int 1)) ρ = _
    have e2 : eUn uNeg (eC (.int 1)) ρ = .ret (.int (-1)) := rfl
    have e3 : eBin ixD (eVar 5) (eUn uNeg (eC (.int 1))) ρ = .ret (nI a) := by
      simp only [eBin, e2, eVar, h, T.bind, nl_last]
    simp only [eBin, eC] at e3 ⊢
    rw [e3, st_app]
    rfl
@[irreducible] def chC : Rho → T (List D) := lComp [6] (iRg rng2 (aCons stE (aCons (eVar 0) aNil))) (gNm 6) yesT (eBin opAdd (eVar 5) (eL (lLst (aCons (eVar 6) aNil))))
theorem chC_val {n k : Nat} {l : List Nat} {x2 x3 x4 x6 : Ent} (hn : n ≤ 1000) (hl : l.length ≤ 1000) (hs : st l ≤ 1001) : chC [.val (nI n), .val (nI k), x2, x3, x4, .val (nl l), x6] = .ret ((up (st l) n).map fun a => nl (l ++ [a])) := by
  have s := stE_val (ρ := [.val (nI n), .val (nI k), x2, x3, x4, .val (nl l), x6]) (l := l) rfl
  have r : iRg rng2 (aCons stE (aCons (eVar 0) aNil)) [.val (nI n), .val (nI k), x2, x3, x4, .val (nl l), x6] = .ret ((up (st l) n).map nI) := by
    have e1 : decide ((n : Int) ≤ 100000) = true := decide_eq_true (by omega)
    have e2 : decide (-100000 ≤ (n : Int)) = true := decide_eq_true (by omega)
    have e3 : decide ((st l : Int) ≤ 100000) = true := decide_eq_true (by omega)
    have e4 : decide (-100000 ≤ (st l : Int)) = true := decide_eq_true (by omega)
    have g : rng2 [nI (st l), nI n] = .ret (upto (st l : Int) ((n : Int) - (st l : Int)).toNat) := by
      show cond (decide ((n : Int) ≤ 100000) && decide (-100000 ≤ (n : Int)) && (decide ((st l : Int) ≤ 100000) && decide (-100000 ≤ (st l : Int)))) (T.ret (upto (st l : Int) ((n : Int) - (st l : Int)).toNat)) .fail = _
      rw [e1, e2, e3, e4]
      rfl
    rw [show ((n : Int) - (st l : Int)).toNat = n - st l by omega, upto_nI] at g
    simp only [iRg, aCons, aNil, s, eVar, List.getElem?_cons_zero, T.bind]
    exact g
  unfold chC lComp
  rw [r]
  show compT (gNm 6) yesT _ [.val (nI n), .val (nI k), x2, x3, x4, .val (nl l), .un] ((up (st l) n).map nI) [] = _
  have ul : (up (st l) n).length ≤ 1000 := by unfold up; simp; omega
  rw [compT_map (f := fun d => nl (l ++ [unI d])) (by simp; omega) fun d hd => ?_]
  · rw [List.nil_append, List.map_map]
    congr 1
  · obtain ⟨a, _, rfl⟩ := List.mem_map.mp hd
    rw [un_I]
    have s1 : small [nI a] = true := small1 _
    have e1 : eL (lLst (aCons (eVar 6) aNil)) [.val (nI n), .val (nI k), x2, x3, x4, .val (nl l), .val (nI a)] = .ret (.lst [nI a]) := by
      simp only [eL, lLst, aCons, aNil, eVar, List.getElem?_cons_succ, List.getElem?_cons_zero, T.bind, s1, cond]
    have s2 : small (l.map nI ++ [nI a]) = true := small_of (by simp; omega)
    show ((eVar 5 [.val (nI n), .val (nI k), x2, x3, x4, .val (nl l), .val (nI a)]).bind fun x => (eL (lLst (aCons (eVar 6) aNil)) [.val (nI n), .val (nI k), x2, x3, x4, .val (nl l), .val (nI a)]).bind fun y => opAdd x y) = _
    rw [e1]
    show opAdd (.lst (l.map nI)) (.lst [nI a]) = _
    unfold opAdd
    dsimp only
    rw [s2]
    unfold nl
    rw [List.map_append]
    rfl
@[irreducible] def chB : Rho → T Out := bSeq (sOwn 4 (lLst aNil)) (bSeq (sFor (iLst (eVar 2)) (gNm 5) (sExt 4 chC)) (bFreeze 4 (sSet 2 (eVar 4))))
theorem ch_eq : m__law_choices = bSeq (sOwn 2 (lLst (aCons (eL (lLst aNil)) aNil))) (bFreeze 2 (bSeq (sFor (iRg rng1 (aCons (eVar 1) aNil)) (gNm 3) chB) (sRet (eVar 2)))) := by
  unfold m__law_choices chB chC stE
  rfl
theorem chs_lt {n : Nat} : ∀ {k : Nat} {l : List Nat}, l ∈ chs n k → ∀ a ∈ l, a < n
  | 0, l, h => by
    rw [List.mem_singleton.mp h]
    intro a ha
    cases ha
  | k + 1, l, h => by
    obtain ⟨one, h1, h2⟩ := List.mem_flatMap.mp h
    obtain ⟨b, hb, rfl⟩ := List.mem_map.mp h2
    intro a ha
    rcases List.mem_append.mp ha with z | z
    · exact chs_lt h1 a z
    · rw [List.mem_singleton.mp z]
      exact (up_mem hb).2
theorem st_le {n k : Nat} {l : List Nat} (h : l ∈ chs n k) : st l ≤ n := by
  rcases List.eq_nil_or_concat l with rfl | ⟨m, a, rfl⟩
  · exact Nat.zero_le _
  · rw [List.concat_eq_append] at h ⊢
    rw [st_app]
    exact chs_lt h a (by simp)
theorem chs_few : ((List.range 6).all fun n => (List.range 5).all fun k => decide ((chs n k).length ≤ 10)) = true := by decide +kernel
theorem chs_few' {n k : Nat} (hn : n ≤ 5) (hk : k ≤ 4) : (chs n k).length ≤ 10 := by
  have := List.all_eq_true.mp (List.all_eq_true.mp chs_few n (List.mem_range.mpr (by omega))) k (List.mem_range.mpr (by omega))
  exact of_decide_eq_true this
/-- one letter more -/
theorem chB_val {n k j : Nat} {x3 x4 x5 x6 : Ent} (hn : n ≤ 5) (hj : j < 4) : T.all (fun o => ∃ x5', o = .nx [.val (nI n), .val (nI k), .val (.lst (chD n (j + 1))), x3, .val (.lst (chD n (j + 1))), x5', x6]) (chB [.val (nI n), .val (nI k), .val (.lst (chD n j)), x3, x4, x5, x6]) := by
  unfold chB
  refine seq_nx (all_eq rfl ⟨_, rfl, seq_nx ?_⟩)
  show T.all _ (forT _ (chD n j) [.val (nI n), .val (nI k), .val (.lst (chD n j)), x3, .own [], x5, x6])
  refine T.all_mono (fun o ho => ?_) (for_inv (P := fun i ρ => ∃ x, ρ = [.val (nI n), .val (nI k), .val (.lst (chD n j)), x3, .own ((((chs n j).take i).flatMap fun one => (up (st one) n).map fun a => one ++ [a]).map nl), x, x6]) (k := 0) ⟨x5, rfl⟩ fun i d ρ hi hd hp => ?_)
  · obtain ⟨ρ', rfl, x, rfl⟩ := ho
    refine ⟨_, rfl, ?_⟩
    have l : (chD n j).length = (chs n j).length := by unfold chD; simp
    rw [l, Nat.zero_add, List.take_length]
    exact ⟨x, rfl⟩
  · obtain ⟨x, rfl⟩ := hp
    rw [Nat.sub_zero] at hd
    unfold chD at hd
    rw [List.getElem?_map] at hd
    obtain ⟨l, hl, rfl⟩ := Option.map_eq_some_iff.mp hd
    have lm : l ∈ chs n j := List.mem_of_getElem? hl
    have ll := chs_len lm
    have ls := st_le lm
    have few := chs_few' hn (show j + 1 ≤ 4 by omega)
    have bound : (((chs n j).take (i + 1)).flatMap fun one => (up (st one) n).map fun a => one ++ [a]).length ≤ 10 := by
      refine Nat.le_trans ?_ few
      show _ ≤ ((chs n j).flatMap fun one => (up (st one) n).map fun a => one ++ [a]).length
      have := List.take_append_drop (i + 1) (chs n j)
      conv => rhs; rw [← this]
      rw [List.flatMap_append, List.length_append]
      exact Nat.le_add_right _ _
    have tk : (chs n j).take (i + 1) = (chs n j).take i ++ [l] := by
      rw [List.take_add_one, hl]
      rfl
    have e := chC_val (n := n) (k := k) (l := l) (x2 := .val (.lst (chD n j))) (x3 := x3) (x4 := .own ((((chs n j).take i).flatMap fun one => (up (st one) n).map fun a => one ++ [a]).map nl)) (x6 := x6) (by omega) (by omega) (by omega)
    rw [tk, List.flatMap_append] at bound ⊢
    have sm : small (((((chs n j).take i).flatMap fun one => (up (st one) n).map fun a => one ++ [a]).map nl) ++ ((up (st l) n).map fun a => nl (l ++ [a]))) = true := small_of (by
      rw [List.length_append, List.length_map, List.length_map]
      rw [List.length_append] at bound
      have z : ([l].flatMap fun one => (up (st one) n).map fun a => one ++ [a]).length = (up (st l) n).length := by simp
      omega)
    show T.all _ (sExt 4 chC [.val (nI n), .val (nI k), .val (.lst (chD n j)), x3, .own ((((chs n j).take i).flatMap fun one => (up (st one) n).map fun a => one ++ [a]).map nl), .val (nl l), x6])
    have e2 : sExt 4 chC [.val (nI n), .val (nI k), .val (.lst (chD n j)), x3, .own ((((chs n j).take i).flatMap fun one => (up (st one) n).map fun a => one ++ [a]).map nl), .val (nl l), x6] = .ret (.nx [.val (nI n), .val (nI k), .val (.lst (chD n j)), x3, .own ((((((chs n j).take i).flatMap fun one => (up (st one) n).map fun a => one ++ [a]).map nl)) ++ ((up (st l) n).map fun a => nl (l ++ [a]))), .val (nl l), x6]) := by
      unfold sExt
      show ((chC _).bind fun es => _) = _
      rw [e]
      show cond (small _) _ _ = _
      rw [sm]
      rfl
    rw [e2]
    refine ⟨_, rfl, .val (nl l), ?_⟩
    rw [List.map_append, List.flatMap_cons, List.flatMap_nil, List.append_nil, List.map_map]
    rfl
@[irreducible] def chF : List D → T D := f__law_choices
theorem ch_all {n k : Nat} (hn : n ≤ 5) (hk : k ≤ 4) : T.all (fun d => d = .lst (chD n k)) (chF [nI n, nI k]) := by
  unfold chF f__law_choices runB
  rw [ch_eq]
  have first : sOwn 2 (lLst (aCons (eL (lLst aNil)) aNil)) [.val (nI n), .val (nI k), .un, .un, .un, .un, .un] = .ret (.nx [.val (nI n), .val (nI k), .own [.lst []], .un, .un, .un, .un]) := rfl
  refine T.all_bind.mpr (seq_nx (all_eq first ⟨_, rfl, ?_⟩))
  show T.all _ (bSeq (sFor (iRg rng1 (aCons (eVar 1) aNil)) (gNm 3) chB) (sRet (eVar 2)) [.val (nI n), .val (nI k), .val (.lst (chD n 0)), .un, .un, .un, .un])
  refine seq_nx ?_
  show T.all _ ((iRg rng1 (aCons (eVar 1) aNil) [.val (nI n), .val (nI k), .val (.lst (chD n 0)), .un, .un, .un, .un]).bind fun ds => forT _ ds _)
  rw [rng_val (k := k) (var_val rfl) (by omega)]
  refine T.all_mono (fun o ho => ?_) (for_inv (P := fun i ρ => ∃ x3 x4 x5 x6, ρ = [.val (nI n), .val (nI k), .val (.lst (chD n i)), x3, x4, x5, x6]) (k := 0) ⟨.un, .un, .un, .un, rfl⟩ fun i d ρ hi hd hp => ?_)
  · obtain ⟨ρ', rfl, x3, x4, x5, x6, rfl⟩ := ho
    rw [upto_len, Nat.zero_add]
    exact ⟨_, rfl, rfl⟩
  · obtain ⟨x3, x4, x5, x6, rfl⟩ := hp
    have hi2 : i < k := by
      have := (List.getElem?_eq_some_iff.mp hd).1
      rw [upto_len] at this
      omega
    show T.all _ (chB [.val (nI n), .val (nI k), .val (.lst (chD n i)), .val d, x4, x5, x6])
    refine T.all_mono (fun o ho => ?_) (chB_val hn (by omega))
    obtain ⟨x5', rfl⟩ := ho
    exact ⟨_, rfl, _, _, _, _, rfl⟩
end Pd

/-! The law's own sum of a word. -/
namespace Pd
open PySem L2 PySem.Spec PyProof.Rows
theorem plus_val {p q : Rat} {m n : Nat} (hp : Sz m p) (hq : Sz n q) (l : m + n ≤ 8999) : f__law_plus [qP p, qP q] = .ret (qP (p + q)) := by
  have e0 : eBin ixD (eVar 0) (eC (.int 0)) [.val (qP p), .val (qP q)] = .ret (.int p.num) := rfl
  have e1 : eBin ixD (eVar 0) (eC (.int 1)) [.val (qP p), .val (qP q)] = .ret (.int p.den) := rfl
  have e2 : eBin ixD (eVar 1) (eC (.int 0)) [.val (qP p), .val (qP q)] = .ret (.int q.num) := rfl
  have e3 : eBin ixD (eVar 1) (eC (.int 1)) [.val (qP p), .val (qP q)] = .ret (.int q.den) := rfl
  have m1 := mulG_val (i := p.num) (j := (q.den : Int)) (log_of hp.num (show m ≤ 9000 by omega) (by decide)) (by simpa using log_of hq.den (show n ≤ 9000 by omega) (by decide))
  have m2 := mulG_val (i := q.num) (j := (p.den : Int)) (log_of hq.num (show n ≤ 9000 by omega) (by decide)) (by simpa using log_of hp.den (show m ≤ 9000 by omega) (by decide))
  have m3 := mulG_val (i := (p.den : Int)) (j := (q.den : Int)) (by simpa using log_of hp.den (show m ≤ 9000 by omega) (by decide)) (by simpa using log_of hq.den (show n ≤ 9000 by omega) (by decide))
  have dp : 0 < (p.den : Int) * (q.den : Int) := Int.mul_pos (by have := p.den_pos; omega) (by have := q.den_pos; omega)
  have lw := low_rat (t := p.num * q.den + q.num * p.den) dp (Nat.lt_of_lt_of_le (den_sz hp hq) (Nat.pow_le_pow_right (by decide) l))
  have ad : ∀ i j : Int, opAdd (.int i) (.int j) = .ret (.int (i + j)) := fun _ _ => rfl
  have z : Rat.divInt (p.num * q.den + q.num * p.den) (p.den * q.den) = p + q := by
    rw [← Rat.divInt_add_divInt _ _ den_ne den_ne, Rat.num_divInt_den, Rat.num_divInt_den]
  rw [z] at lw
  show T.bind (m__law_plus [.val (qP p), .val (qP q)]) _ = _
  unfold m__law_plus
  have x1 : eBin opAdd (eBin opMulG (eBin ixD (eVar 0) (eC (.int 0))) (eBin ixD (eVar 1) (eC (.int 1)))) (eBin opMulG (eBin ixD (eVar 1) (eC (.int 0))) (eBin ixD (eVar 0) (eC (.int 1)))) [.val (qP p), .val (qP q)] = .ret (.int (p.num * q.den + q.num * p.den)) := by
    show (((eBin ixD (eVar 0) (eC (.int 0)) _).bind fun a => (eBin ixD (eVar 1) (eC (.int 1)) _).bind fun b => opMulG a b).bind fun x => ((eBin ixD (eVar 1) (eC (.int 0)) _).bind fun a => (eBin ixD (eVar 0) (eC (.int 1)) _).bind fun b => opMulG a b).bind fun y => opAdd x y) = _
    rw [e0, e1, e2, e3]
    simp only [T.bind, m1, m2, ad]
  have x2 : eBin opMulG (eBin ixD (eVar 0) (eC (.int 1))) (eBin ixD (eVar 1) (eC (.int 1))) [.val (qP p), .val (qP q)] = .ret (.int (p.den * q.den)) := by
    show ((eBin ixD (eVar 0) (eC (.int 1)) _).bind fun a => (eBin ixD (eVar 1) (eC (.int 1)) _).bind fun b => opMulG a b) = _
    rw [e1, e3]
    simp only [T.bind, m3]
  simp only [sRet, eCall, aCons, aNil, x1, x2, T.bind, List.length_cons, List.length_nil, BEq.rfl, cond, lw]
@[irreducible] def plF : List D → T D := f__law_plus
@[irreducible] def tmF : List D → T D := f__law_times
@[irreducible] def waF : List D → T D := f__law_worth
theorem plF_val {p q : Rat} {m n : Nat} (hp : Sz m p) (hq : Sz n q) (l : m + n ≤ 8999) : plF [qP p, qP q] = .ret (qP (p + q)) := by
  unfold plF
  exact plus_val hp hq l
theorem tmF_val {p q : Rat} {m n : Nat} (hp : Sz m p) (hq : Sz n q) (l : m + n ≤ 8999) : tmF [qP p, qP q] = .ret (qP (p * q)) := by
  unfold tmF
  exact times_val hp hq l
theorem wa_all {l : List Nat} {rs : List Rat} (hr : ∀ r ∈ rs, Sz 2 r) (hp : ∀ p ∈ l, p ≤ 8) (hl : l.length ≤ 3) : T.all (fun d => d = qP (wt l rs)) (waF [nt l, .lst (rs.map qP)]) := by
  unfold waF
  exact T.all_mono (fun d h => h.1) (law_worth_all hr hp hl)
/-- rows as the law has them -/
def rowP (rs : List Rat) : D := .lst (rs.map qP)
@[irreducible] def lsI : Rho → T Out := sSet 4 (eCall 2 tmF (aCons (eVar 4) (aCons (eCall 2 waF (aCons (eVar 6) (aCons (eBin ixD (eVar 0) (eVar 5)) aNil))) aNil)))
@[irreducible] def lsB : Rho → T Out := bSeq (sSet 4 (eTup (aCons (eC (.int 1)) (aCons (eC (.int 1)) aNil)))) (bSeq (sFor (iRg zipY (aCons (eVar 3) (aCons (eVar 1) aNil))) (gTp 2 (gsCons (gNm 5) (gsCons (gNm 6) gsNil))) lsI) (sSet 2 (eCall 2 plF (aCons (eVar 2) (aCons (eVar 4) aNil)))))
@[irreducible] def lsC : Rho → T D := eCall 2 chF (aCons (eCa bLen (aCons (eVar 0) aNil)) (aCons (eCa bLen (aCons (eVar 1) aNil)) aNil))
theorem ls_eq : m__law_sum = bSeq (sSet 2 (eTup (aCons (eC (.int 0)) (aCons (eC (.int 1)) aNil)))) (bSeq (sFor (iLst lsC) (gNm 3) lsB) (sRet (eVar 2))) := by
  unfold m__law_sum lsB lsI lsC plF tmF waF chF
  rfl
section
variable {c : Nat} {ls : List (List Nat)} {rss : List (List Rat)} {x2 x3 x4 x5 x6 : Ent}
theorem Okw.wz (h : Okw c ls rss) {k a : Nat} (hk : k < ls.length) (ha : a < rss.length) : Sz 20 (wS ls rss k a) := by
  unfold wS
  have el : ls.getD k [] ∈ ls := by
    rw [List.getD_eq_getElem?_getD, List.getElem?_eq_getElem hk]
    exact List.getElem_mem hk
  have er : rss.getD a [] ∈ rss := by
    rw [List.getD_eq_getElem?_getD, List.getElem?_eq_getElem ha]
    exact List.getElem_mem ha
  have p := h.hp _ el
  refine (sz_wt2 _ _ p.2 (h.hr _ er)).mono ?_
  rw [p.1]
  have := h.c3
  omega
theorem pr_sz {w : Nat → Nat → Rat} {n : Nat} : ∀ {l : List Nat} {i : Nat}, (∀ k a, k < i + l.length → a < n → Sz 20 (w k a)) → (∀ a ∈ l, a < n) → Sz (1 + 20 * l.length) (pr w i l)
  | [], i, _, _ => sz_one
  | a :: l, i, h, g => by
    rw [List.length_cons] at h
    have z := sz_mul (h i a (by omega) (g a List.mem_cons_self)) (pr_sz (l := l) (i := i + 1) (fun k b hk hb => h k b (by omega) hb) fun b hb => g b (List.mem_cons_of_mem _ hb))
    exact z.mono (by rw [List.length_cons]; omega)
theorem lsI_all {l : List Nat} {i : Nat} {a : Nat} {m : List Nat} (h : Okw c ls rss) (hm : ls[i]? = some m) (ha : a < rss.length) (p : Rat) {s : Nat} (sp : Sz s p) (sl : s ≤ 200) : T.all (fun o => o = .nx [.val (.lst (rss.map rowP)), .val (nw ls), x2, x3, .val (qP (p * wS ls rss i a)), .val (nI a), .val (nt m)]) (lsI [.val (.lst (rss.map rowP)), .val (nw ls), x2, x3, .val (qP p), .val (nI a), .val (nt m)]) := by
  have hi : i < ls.length := (List.getElem?_eq_some_iff.mp hm).1
  have em : ls.getD i [] = m := by rw [List.getD_eq_getElem?_getD, hm]; rfl
  have ml : m ∈ ls := List.mem_of_getElem? hm
  have hr : rss[a]? = some (rss.getD a []) := by rw [List.getD_eq_getElem?_getD, List.getElem?_eq_getElem ha]; rfl
  have rl : rss.getD a [] ∈ rss := List.mem_of_getElem? hr
  have pm := h.hp m ml
  have wz := h.wz hi ha
  have we : wS ls rss i a = wt m (rss.getD a []) := by unfold wS; rw [em]
  rw [we] at wz ⊢
  have ix : eBin ixD (eVar 0) (eVar 5) [.val (.lst (rss.map rowP)), .val (nw ls), x2, x3, .val (qP p), .val (nI a), .val (nt m)] = .ret (rowP (rss.getD a [])) := by
    show ixL (rss.map rowP) (.int (a : Int)) = _
    unfold ixL
    dsimp only
    have e : atI (rss.map rowP) (a : Int) = some (rowP (rss.getD a [])) := by
      unfold atI ixN
      have hl : (rss.map rowP).length = rss.length := by simp
      rw [hl, if_pos (by omega), if_pos (by omega)]
      show (rss.map rowP)[(a : Int).toNat]? = _
      rw [Int.toNat_natCast, List.getElem?_map, hr]
      rfl
    rw [e]
  unfold lsI
  refine T.all_bind.mpr (call2_all (all_eq (a := qP p) rfl (call2_all (all_eq (a := nt m) rfl (all_eq ix (T.all_mono (fun d hd => ?_) (wa_all (l := m) (rs := rss.getD a []) (h.hr _ rl) (fun q hq => by have := pm.2 q hq; omega) (by rw [pm.1]; exact h.c3))))))))
  subst hd
  refine all_eq (tmF_val sp wz (by omega)) ?_
  rfl
theorem pr_take {w : Nat → Nat → Rat} {l : List Nat} {i a : Nat} (h : l[i]? = some a) : pr w 0 (l.take (i + 1)) = pr w 0 (l.take i) * w i a := by
  have hi : i < l.length := (List.getElem?_eq_some_iff.mp h).1
  rw [List.take_add_one, h]
  show pr w 0 (l.take i ++ [a]) = _
  rw [pr_app, List.length_take, Nat.min_eq_left (by omega), Nat.zero_add]
theorem take_all {α : Type} (l : List α) : l.take l.length = l := List.take_length
/-- one choice -/
theorem lsB_all {l : List Nat} {t : Rat} {s : Nat} (h : Okw c ls rss) (hl : l ∈ chs rss.length ls.length) (st' : Sz s t) (sl : s ≤ 8000) : T.all (fun o => ∃ x4' x5' x6', o = .nx [.val (.lst (rss.map rowP)), .val (nw ls), .val (qP (t + pr (wS ls rss) 0 l)), .val (nl l), x4', x5', x6']) (lsB [.val (.lst (rss.map rowP)), .val (nw ls), .val (qP t), .val (nl l), x4, x5, x6]) := by
  have ll := chs_len hl
  have lt := chs_lt hl
  have h4 := h.h4
  unfold lsB
  have one : sSet 4 (eTup (aCons (eC (.int 1)) (aCons (eC (.int 1)) aNil))) [.val (.lst (rss.map rowP)), .val (nw ls), .val (qP t), .val (nl l), x4, x5, x6] = .ret (.nx [.val (.lst (rss.map rowP)), .val (nw ls), .val (qP t), .val (nl l), .val (qP 1), x5, x6]) := by
    rw [qP_one]
    rfl
  refine seq_nx (all_eq one ⟨_, rfl, seq_nx ?_⟩)
  show T.all _ (forT _ (zipD (l.map nI) (ls.map nt)) [.val (.lst (rss.map rowP)), .val (nw ls), .val (qP t), .val (nl l), .val (qP 1), x5, x6])
  refine T.all_mono (fun o ho => ?_) (for_inv (P := fun i ρ => ∃ y z, ρ = [.val (.lst (rss.map rowP)), .val (nw ls), .val (qP t), .val (nl l), .val (qP (pr (wS ls rss) 0 (l.take i))), y, z]) (k := 0) ⟨x5, x6, rfl⟩ fun i d ρ hi hd hp => ?_)
  · obtain ⟨ρ', rfl, y, z, rfl⟩ := ho
    rw [zipD_len, List.length_map, List.length_map, ll, Nat.min_self, Nat.zero_add]
    have tl : l.take ls.length = l := by
      have := take_all l
      rw [ll] at this
      exact this
    rw [tl]
    refine ⟨_, rfl, ?_⟩
    have sz := pr_sz (w := wS ls rss) (n := rss.length) (l := l) (i := 0) (fun k a hk ha => h.wz (by omega) ha) lt
    refine T.all_bind.mpr (call2_all (all_eq (a := qP t) rfl (all_eq (a := qP (pr (wS ls rss) 0 l)) rfl (all_eq (plF_val st' sz (by omega)) ?_))))
    exact ⟨_, _, _, rfl⟩
  · obtain ⟨y, z, rfl⟩ := hp
    rw [Nat.sub_zero] at hd
    obtain ⟨u, v, hu, hv, rfl⟩ := zipD_get hd
    rw [List.getElem?_map] at hu hv
    obtain ⟨a, ha, rfl⟩ := Option.map_eq_some_iff.mp hu
    obtain ⟨m, hm, rfl⟩ := Option.map_eq_some_iff.mp hv
    have al := lt a (List.mem_of_getElem? ha)
    have sz := pr_sz (w := wS ls rss) (n := rss.length) (l := l.take i) (i := 0) (fun k a hk ha => h.wz (by rw [List.length_take] at hk; omega) ha) fun b hb => lt b (List.mem_of_mem_take hb)
    show T.all _ (lsI [.val (.lst (rss.map rowP)), .val (nw ls), .val (qP t), .val (nl l), .val (qP (pr (wS ls rss) 0 (l.take i))), .val (nI a), .val (nt m)])
    refine T.all_mono (fun o ho => ?_) (lsI_all (l := l) h hm al _ sz (by rw [List.length_take]; omega))
    subst ho
    rw [pr_take ha]
    exact ⟨_, rfl, _, _, rfl⟩
@[irreducible] def lsF : List D → T D := f__law_sum
theorem sumR_one (x : Rat) : sumR [x] = x := by
  show x + 0 = x
  rw [Rat.add_zero]
theorem ls_all (h : Okw c ls rss) (h5 : rss.length ≤ 5) : T.all (fun d => d = qP (WS ls rss)) (lsF [.lst (rss.map rowP), nw ls]) := by
  have h4 := h.h4
  unfold lsF f__law_sum runB
  rw [ls_eq]
  have zero : sSet 2 (eTup (aCons (eC (.int 0)) (aCons (eC (.int 1)) aNil))) [.val (.lst (rss.map rowP)), .val (nw ls), .un, .un, .un, .un, .un] = .ret (.nx [.val (.lst (rss.map rowP)), .val (nw ls), .val (qP 0), .un, .un, .un, .un]) := by
    have : qP (0 : Rat) = .tup [.int 0, .int 1] := by simp [qP]
    rw [this]
    rfl
  have len0 : bLen [.lst (rss.map rowP)] = .ret (nI rss.length) := by
    show T.ret (D.int ((rss.map rowP).length : Int)) = _
    rw [List.length_map]
    rfl
  have len1 : bLen [nw ls] = .ret (nI ls.length) := by
    show T.ret (D.int ((ls.map nt).length : Int)) = _
    rw [List.length_map]
    rfl
  have ch : T.all (fun d => d = .lst (chD rss.length ls.length)) (lsC [.val (.lst (rss.map rowP)), .val (nw ls), .val (qP 0), .un, .un, .un, .un]) := by
    unfold lsC
    refine call2_all ?_
    have a1 : eCa bLen (aCons (eVar 0) aNil) [.val (.lst (rss.map rowP)), .val (nw ls), .val (qP 0), .un, .un, .un, .un] = .ret (nI rss.length) := by
      simp only [eCa, aCons, aNil, eVar, List.getElem?_cons_zero, T.bind, len0]
    have a2 : eCa bLen (aCons (eVar 1) aNil) [.val (.lst (rss.map rowP)), .val (nw ls), .val (qP 0), .un, .un, .un, .un] = .ret (nI ls.length) := by
      simp only [eCa, aCons, aNil, eVar, List.getElem?_cons_succ, List.getElem?_cons_zero, T.bind, len1]
    exact all_eq a1 (all_eq a2 (ch_all h5 h4))
  refine T.all_bind.mpr (seq_nx (all_eq zero ⟨_, rfl, seq_nx ?_⟩))
  refine T.all_bind.mpr (T.all_bind.mpr (T.all_mono (fun d hd => ?_) ch))
  subst hd
  show T.all _ (forT _ (chD rss.length ls.length) [.val (.lst (rss.map rowP)), .val (nw ls), .val (qP 0), .un, .un, .un, .un])
  have few := chs_few' h5 h4
  have psz : ∀ l ∈ chs rss.length ls.length, Sz 100 (pr (wS ls rss) 0 l) := fun l hl => by
    have ll := chs_len hl
    exact (pr_sz (w := wS ls rss) (n := rss.length) (l := l) (i := 0) (fun k a hk ha => h.wz (by omega) ha) (chs_lt hl)).mono (by omega)
  refine T.all_mono (fun o ho => ?_) (for_inv (P := fun i ρ => i ≤ 10 ∧ ∃ x3 x4 x5 x6, ρ = [.val (.lst (rss.map rowP)), .val (nw ls), .val (qP (sumR (((chs rss.length ls.length).take i).map (pr (wS ls rss) 0)))), x3, x4, x5, x6] ∧ Sz (1 + 101 * i) (sumR (((chs rss.length ls.length).take i).map (pr (wS ls rss) 0)))) (k := 0) ⟨by omega, .un, .un, .un, .un, rfl, show Sz 1 (0 : Rat) from ⟨by decide, by decide⟩⟩ fun i d ρ hi hd hp => ?_)
  · obtain ⟨ρ', rfl, _, x3, x4, x5, x6, rfl, _⟩ := ho
    have l : (chD rss.length ls.length).length = (chs rss.length ls.length).length := by unfold chD; simp
    rw [l, Nat.zero_add, List.take_length, chs_dp]
    exact ⟨_, rfl, rfl⟩
  · obtain ⟨i10, x3, x4, x5, x6, rfl, sz⟩ := hp
    rw [Nat.sub_zero] at hd
    unfold chD at hd
    rw [List.getElem?_map] at hd
    obtain ⟨l, hl, rfl⟩ := Option.map_eq_some_iff.mp hd
    have lm : l ∈ chs rss.length ls.length := List.mem_of_getElem? hl
    have hi2 : i < (chs rss.length ls.length).length := (List.getElem?_eq_some_iff.mp hl).1
    have tk : (chs rss.length ls.length).take (i + 1) = (chs rss.length ls.length).take i ++ [l] := by
      rw [List.take_add_one, hl]
      rfl
    have sm : sumR (((chs rss.length ls.length).take (i + 1)).map (pr (wS ls rss) 0)) = sumR (((chs rss.length ls.length).take i).map (pr (wS ls rss) 0)) + pr (wS ls rss) 0 l := by
      rw [tk, List.map_append, sumR_app]
      congr 1
      exact sumR_one _
    show T.all _ (lsB [.val (.lst (rss.map rowP)), .val (nw ls), .val (qP (sumR (((chs rss.length ls.length).take i).map (pr (wS ls rss) 0)))), .val (nl l), x4, x5, x6])
    refine T.all_mono (fun o ho => ?_) (lsB_all h lm sz (by omega))
    obtain ⟨a, b, e, rfl⟩ := ho
    rw [sm]
    exact ⟨_, rfl, by omega, _, _, _, _, rfl, (sz_add sz (psz l lm)).mono (by omega)⟩
end
end Pd

namespace Pd
open PySem L2 PySem.Spec PyProof.Rows

/-! What is drawn: letters, rows, rows as they are passed. -/
/-! a letter -/
/-! a number -/
theorem sz_int {i : Int} (h : i.natAbs < 4) : Sz 2 (i : Rat) := ⟨by rw [Rat.num_intCast]; exact h, by rw [Rat.den_intCast]; decide⟩
theorem qP_int (i : Int) : qP (i : Rat) = .tup [.int i, .int 1] := by
  unfold qP
  rw [Rat.num_intCast, Rat.den_intCast]
  rfl
theorem number_all : (f__law_number [.pot]).all fun d => ∃ q, d = qP q ∧ Sz 2 q := by
  refine T.all_bind.mpr ?_
  show T.all _ (m__law_number [.val .pot, .un])
  refine seq_nx (T.all_bind.mpr (bin_all (all_dr (drawE (n := 6) rfl rfl (by decide) (by decide)) fun i hi => all_eq (a := .int (i : Int)) rfl (all_eq (a := .int 2) rfl (all_eq (a := .int ((i : Int) - 2)) rfl ⟨_, rfl, ?_⟩)))))
  have it : ((i : Int) - 2).natAbs < 4 := by omega
  generalize (i : Int) - 2 = t at it
  show T.all _ ((eIf (eTest (eBin opEqF (eCall 2 f__law_draw (aCons (eVar 0) (aCons (eC (.int 5)) aNil))) (eC (.int 0)))) (eCall 2 f__law_low (aCons (eVar 1) (aCons (eBin opAdd (eC (.int 2)) (eCall 2 f__law_draw (aCons (eVar 0) (aCons (eC (.int 2)) aNil)))) aNil))) (eTup (aCons (eVar 1) (aCons (eC (.int 1)) aNil))) [.val .pot, .val (.int t)]).bind fun d => .ret (Out.rt d))
  refine T.all_bind.mpr (T.all_bind.mpr (T.all_bind.mpr (bin_all (all_dr (drawE (n := 5) rfl rfl (by decide) (by decide)) fun j hj => all_eq (a := .int (j : Int)) rfl (all_eq (a := .int 0) rfl (all_eq (eqI' _ _) ?_))))))
  show T.all _ (T.ret (decide ((j : Int) = 0)))
  show T.all _ (cond (decide ((j : Int) = 0)) _ _)
  cases decide ((j : Int) = 0) with
  | true =>
    refine call2_all (all_eq (var_val rfl) (bin_all (all_eq (a := .int 2) rfl (all_dr (drawE (n := 2) rfl rfl (by decide) (by decide)) fun k hk => all_eq (a := .int (k : Int)) rfl (all_eq (a := .int (2 + (k : Int))) rfl (all_eq (low_rat (by omega) ?_) ⟨_, rfl, ?_⟩))))))
    · exact Nat.lt_of_lt_of_le (show (2 + (k : Int)).natAbs < 2 ^ 2 by omega) (Nat.pow_le_pow_right (by decide) (by decide))
    · exact sz_divInt (by omega) (show t.natAbs < 2 ^ 2 by omega) (show (2 + (k : Int)).natAbs < 2 ^ 2 by omega)
  | false => exact ⟨(t : Rat), (qP_int t).symm, sz_int it⟩
/-! rows -/
/-! as it is passed -/
theorem law_ratio_val {q : Rat} {n : Nat} (h : Sz n q) (l : n ≤ 9000) : f__law_ratio [qP q] = .ret (qR q) := by
  have e0 : eBin ixD (eVar 0) (eC (.int 0)) [.val (qP q)] = .ret (.int q.num) := rfl
  have e1 : eBin ixD (eVar 0) (eC (.int 1)) [.val (qP q)] = .ret (.int q.den) := rfl
  have e := mk_val e0 e1 (den_ne (q := q)) (by simpa using log_of h.den l (by decide))
  rw [lowR_rat den_ne, Rat.num_divInt_den] at e
  have m : m__law_ratio = sRet (mkR (eBin ixD (eVar 0) (eC (.int 0))) (eBin ixD (eVar 0) (eC (.int 1)))) := rfl
  show (T.bind (m__law_ratio [.val (qP q)]) _) = _
  rw [m]
  simp only [sRet, e, T.bind]
def passE : Rho → T D := eIf (tAnd' (eTest (eBin opEqF (eBin ixD (eVar 2) (eC (.int 1))) (eC (.int 1)))) (eTest (eBin opGt (eCall 2 f__law_draw (aCons (eVar 0) (aCons (eC (.int 3)) aNil))) (eC (.int 0))))) (eBin ixD (eVar 2) (eC (.int 0))) (eCall 1 f__law_ratio (aCons (eVar 2) aNil))
theorem pass_all {r : Rat} {R : Ent} (h : Sz 2 r) : (passE [.val .pot, R, .val (qP r)]).all fun d => Num d r := by
  have rat : (eCall 1 f__law_ratio (aCons (eVar 2) aNil) [.val .pot, R, .val (qP r)]).all fun d => Num d r :=
    call1_all (all_eq (var_val rfl) (all_eq (law_ratio_val h (by decide)) (.q r)))
  refine T.all_bind.mpr (T.all_bind.mpr (T.all_bind.mpr (bin_all (all_eq (a := .int r.den) rfl (all_eq (a := .int 1) rfl (all_eq (eqI' _ _) ?_))))))
  show T.all _ (cond (decide ((r.den : Int) = 1)) _ (T.ret false))
  by_cases c : (r.den : Int) = 1
  · rw [decide_eq_true c]
    refine T.all_bind.mpr (bin_all (all_dr (drawE (n := 3) rfl rfl (by decide) (by decide)) fun k hk => all_eq (a := .int (k : Int)) rfl (all_eq (a := .int 0) rfl ?_)))
    show T.all _ (cond (decide ((k : Int) > 0)) _ _)
    cases decide ((k : Int) > 0) with
    | true =>
      have e : ((r.num : Int) : Rat) = r := Rat.ext (Rat.num_intCast _) (by rw [Rat.den_intCast]; omega)
      show Num (.int r.num) r
      have z := Num.i r.num
      rw [e] at z
      exact z
    | false => exact rat
  · rw [decide_eq_false c]
    exact rat
theorem comp_pass {R : Ent} : ∀ (rs : List Rat) {acc : List D} {qs : List Rat}, NumL acc qs → acc.length + rs.length ≤ 1000 → (∀ r ∈ rs, Sz 2 r) → (compT (gNm 2) yesT passE [.val .pot, R, .un] (rs.map qP) acc).all fun ds => NumL ds (qs ++ rs)
  | [], acc, qs, h, _, _ => by
    show NumL acc (qs ++ [])
    rw [List.append_nil]
    exact h
  | r :: rs, acc, qs, h, hl, g => by
    rw [List.length_cons] at hl
    have c : small acc = true := decide_eq_true (by omega)
    have e : compT (gNm 2) yesT passE [.val .pot, R, .un] ((r :: rs).map qP) acc = (passE [.val .pot, R, .val (qP r)]).bind fun y => cond (small acc) (compT (gNm 2) yesT passE [.val .pot, R, .un] (rs.map qP) (acc ++ [y])) .fail := rfl
    rw [e, c]
    refine T.all_bind.mpr (T.all_mono (fun d hd => ?_) (pass_all (g r List.mem_cons_self)))
    have ih := comp_pass (R := R) rs (acc := acc ++ [d]) (qs := qs ++ [r]) (h.app (.cons hd .nil)) (by simp; omega) fun x hx => g x (List.mem_cons_of_mem _ hx)
    rw [List.append_assoc] at ih
    exact ih
theorem passed_all {rs : List Rat} (h : rs.length ≤ 3) (g : ∀ r ∈ rs, Sz 2 r) : (f__law_passed [.pot, .lst (rs.map qP)]).all fun d => ∃ ds, d = .lst ds ∧ NumL ds rs := by
  refine T.all_bind.mpr ?_
  show T.all _ ((eL (lComp [2] (iLst (eVar 1)) (gNm 2) yesT passE) [.val .pot, .val (.lst (rs.map qP)), .un]).bind fun d => .ret (Out.rt d))
  refine T.all_bind.mpr (T.all_bind.mpr ?_)
  show T.all _ (compT (gNm 2) yesT passE [.val .pot, .val (.lst (rs.map qP)), .un] (rs.map qP) [])
  exact T.all_mono (fun ds hd => ⟨ds, rfl, hd⟩) (comp_pass rs .nil (by simp; omega) g)

/-! Texts, what is alike, the arithmetic of worths. -/
/-! alike -/
theorem same_ints : ∀ l : List Nat, D.sames eRat (l.map nI) (l.map nI) = true
  | [] => rfl
  | a :: l => by
    show ((((a : Int) == (a : Int)) && D.sames eRat (l.map nI) (l.map nI)) = true)
    rw [same_ints l, BEq.rfl]
    rfl
theorem hgt_ints : ∀ l : List Nat, D.hgts (l.map nI) = 0
  | [] => rfl
  | a :: l => by
    show max (D.hgt (nI a)) (D.hgts (l.map nI)) = 0
    rw [hgt_ints l]
    rfl
theorem same_q (q : Rat) : eRat (qR q) (qR q) = true := by
  have e := eq_rat q q
  rw [decide_eq_true rfl] at e
  unfold eRat eOne qR ratio
  dsimp only
  rw [sRR]
  unfold qR ratio at e
  rw [e]
  rfl
@[irreducible] def neS : D → D → T D := opOr (opNeS eRat) opNeF (fun x _ => isBig x)
@[irreducible] def eqS : D → D → T D := opOr (opEqS eRat) opEqF (fun x _ => isBig x)
theorem ne_same {x : D} (h : D.same eRat x x = true) (b : isBig x = true) (g : decide (D.hgt x ≤ 4) = true) : neS x x = .ret (.bl false) := by
  unfold neS opOr opNeS
  dsimp only
  rw [b, h, g]
  rfl
theorem eq_same {x : D} (h : D.same eRat x x = true) (b : isBig x = true) (g : decide (D.hgt x ≤ 4) = true) : eqS x x = .ret (.bl true) := by
  unfold eqS opOr opEqS
  dsimp only
  rw [b, h, g]
  rfl
theorem ne_q (q : Rat) : neS (qR q) (qR q) = .ret (.bl false) := ne_same (same_q q) rfl rfl
theorem eq_q (q : Rat) : eqS (qR q) (qR q) = .ret (.bl true) := eq_same (same_q q) rfl rfl
theorem same_qs : ∀ qs : List Rat, D.sames eRat (qs.map qR) (qs.map qR) = true
  | [] => rfl
  | q :: qs => by
    show (eRat (qR q) (qR q) && D.sames eRat (qs.map qR) (qs.map qR)) = true
    rw [same_qs qs, same_q q]
    rfl
theorem hgt_qs : ∀ qs : List Rat, D.hgts (qs.map qR) = 0
  | [] => rfl
  | q :: qs => by
    show max (D.hgt (qR q)) (D.hgts (qs.map qR)) = 0
    rw [hgt_qs qs]
    rfl
theorem hgt_ql (qs : List Rat) : decide (D.hgt (.lst (qs.map qR)) ≤ 4) = true := by
  have e : D.hgt (.lst (qs.map qR)) = 1 := by
    show D.hgts (qs.map qR) + 1 = 1
    rw [hgt_qs]
  rw [e]
  rfl
theorem ne_qs (qs : List Rat) : neS (.lst (qs.map qR)) (.lst (qs.map qR)) = .ret (.bl false) := ne_same (same_qs qs) rfl (hgt_ql qs)
theorem eq_qs (qs : List Rat) : eqS (.lst (qs.map qR)) (.lst (qs.map qR)) = .ret (.bl true) := eq_same (same_qs qs) rfl (hgt_ql qs)
theorem eqS_int (i j : Int) : eqS (.int i) (.int j) = .ret (.bl (decide (i = j))) := by
  unfold eqS
  rfl
/-! worths -/
/-! the greatest power -/

/-! Two letters and a row: all comes out right. -/
theorem callK3_all {ρ : Rho} {a b c : Rho → T D} {f : List D → T D} {P : D → Prop} (h : (a ρ).all fun x => (b ρ).all fun y => (c ρ).all fun z => (f [z, y, x]).all P) : (eCallK 3 [2, 1, 0] f (aCons a (aCons b (aCons c aNil))) ρ).all P :=
  T.all_bind.mpr (T.all_bind.mpr (T.all_mono (fun x hx => T.all_bind.mpr (T.all_bind.mpr (T.all_mono (fun y hy => T.all_bind.mpr (T.all_bind.mpr (T.all_mono (fun z hz => hz) hy))) hx))) h))
theorem call2_val {ρ : Rho} {i j : Nat} {x y : D} {f : List D → T D} {P : D → Prop} (hi : ρ[i]? = some (.val x)) (hj : ρ[j]? = some (.val y)) (h : (f [x, y]).all P) : (eCall 2 f (aCons (eVar i) (aCons (eVar j) aNil)) ρ).all P :=
  call2_all (all_eq (var_val hi) (all_eq (var_val hj) h))
theorem var_all {ρ : Rho} {i : Nat} {x : D} (hi : ρ[i]? = some (.val x)) : (eVar i ρ).all fun d => d = x := all_eq (var_val hi) rfl
theorem par_all {ρ : Rho} {i j : Nat} {a b : Rho → T D} {P : Out → Prop} (h : (a ρ).all fun x => (b ρ).all fun y => P (.nx ((ρ.set i (.val x)).set j (.val y)))) : (sPar i j a b ρ).all P :=
  T.all_bind.mpr (T.all_mono (fun x hx => T.all_bind.mpr hx) h)
theorem set_all {ρ : Rho} {i : Nat} {a : Rho → T D} {P : Out → Prop} (h : (a ρ).all fun x => P (.nx (ρ.set i (.val x)))) : (sSet i a ρ).all P := T.all_bind.mpr h
theorem test_all {ρ : Rho} {m : Rho → T D} {b : Bool} (h : (m ρ).all fun d => d = .bl b) : (eTest m ρ).all fun c => c = b :=
  T.all_bind.mpr (T.all_mono (fun d hd => by subst hd; exact rfl) h)
theorem or_false' {ρ : Rho} {a b : Rho → T Bool} (h : (a ρ).all fun c => c = false) (g : (b ρ).all fun c => c = false) : (tOr' a b ρ).all fun c => c = false :=
  T.all_bind.mpr (T.all_mono (fun c hc => by subst hc; exact g) h)
theorem if_no {ρ : Rho} {t : Rho → T Bool} {m1 m2 : Rho → T Out} {P : Out → Prop} (h : (t ρ).all fun c => c = false) (g : (m2 ρ).all P) : (sIf t m1 m2 ρ).all P :=
  T.all_bind.mpr (T.all_mono (fun c hc => by subst hc; exact g) h)
theorem if_yes {ρ : Rho} {t : Rho → T Bool} {m1 m2 : Rho → T Out} {P : Out → Prop} (h : (t ρ).all fun c => c = true) (g : (m1 ρ).all P) : (sIf t m1 m2 ρ).all P :=
  T.all_bind.mpr (T.all_mono (fun c hc => by subst hc; exact g) h)
theorem ne_all {ρ : Rho} {a b : Rho → T D} {f : D → D → T D} {x : D} {r : Bool} (ha : (a ρ).all fun d => d = x) (hb : (b ρ).all fun d => d = x) (h : f x x = .ret (.bl r)) : (eBin f a b ρ).all fun d => d = .bl r :=
  bin_all (T.all_mono (fun d hd => T.all_mono (fun e he => by subst hd he; exact all_eq h rfl) hb) ha)
section
variable {c : Nat} {l m : List Nat} {rs : List Rat} {ds : List D} {v e2 e3 e4 e5 e6 e7 e8 e9 e10 e11 e12 : D} {x2 x3 x4 x5 x6 x7 x8 x9 x10 x11 x12 : Ent}
end

/-! The law comes out true, whatever is drawn. -/
theorem not_all {ρ : Rho} {a : Rho → T Bool} {b : Bool} (h : (a ρ).all fun c => c = b) : (tNot' a ρ).all fun c => c = !b :=
  T.all_bind.mpr (T.all_mono (fun c hc => by subst hc; exact rfl) h)
end Pd

/-! What is drawn: rows, words; tables as they are passed. -/
namespace Pd
open PySem L2 PySem.Spec PyProof.Rows
/-- a number, put behind the numbers of a row -/
theorem row_loop {c : Nat} {x1 x2 x3 x4 z : Ent} {n : Nat} (hn : n ≤ 1000) : T.all (fun o => ∃ ρ', o = .nx ρ' ∧ ∃ (rs : List Rat) (a : Ent), ρ' = [.val .pot, x1, x2, x3, x4, .own (rs.map qP), a] ∧ rs.length = n ∧ ∀ r ∈ rs, Sz 2 r) (forT (fun d ρ => (gNm 6 d ρ).bind (sApp 5 (eCall 1 f__law_number (aCons (eVar 0) aNil)))) (upto 0 n) [.val .pot, x1, x2, x3, x4, .own [], z]) := by
  refine T.all_mono (fun o ho => ?_) (for_inv (P := fun k ρ => ∃ (rs : List Rat) (a : Ent), ρ = [.val .pot, x1, x2, x3, x4, .own (rs.map qP), a] ∧ rs.length = k ∧ ∀ r ∈ rs, Sz 2 r) (k := 0) ⟨[], z, rfl, rfl, fun x hx => (List.not_mem_nil hx).elim⟩ fun i d ρ hi hd hp => ?_)
  · obtain ⟨ρ', rfl, rs, a, rfl, hl, g⟩ := ho
    rw [upto_len, Nat.zero_add] at hl
    exact ⟨_, rfl, rs, a, rfl, hl, g⟩
  · obtain ⟨rs, a, rfl, hl, g⟩ := hp
    have hi2 : i < n := by
      have := (List.getElem?_eq_some_iff.mp hd).1
      rw [upto_len] at this
      omega
    show T.all _ (sApp 5 (eCall 1 f__law_number (aCons (eVar 0) aNil)) [.val .pot, x1, x2, x3, x4, .own (rs.map qP), .val d])
    refine app_all (i := 5) rfl (by simp; omega) (call1_all (all_eq (var_val rfl) (T.all_mono (fun x hx => ?_) number_all)))
    obtain ⟨q, rfl, sq⟩ := hx
    refine ⟨_, rfl, rs ++ [q], _, by rw [List.map_append]; rfl, by simp [hl], fun y hy => ?_⟩
    rcases List.mem_append.mp hy with z | z
    · exact g y z
    · rw [List.mem_singleton.mp z]; exact sq
/-- rows for so many columns, of small numbers -/
def RowsOk (c : Nat) (rss : List (List Rat)) : Prop := ∀ rs ∈ rss, rs.length = c ∧ ∀ r ∈ rs, Sz 2 r
theorem rows_all {c n : Nat} (hc : c ≤ 3) (hn : n ≤ 100) : (f__law_rows [.pot, .int (c : Int), .int (n : Int)]).all fun d => ∃ rss : List (List Rat), d = .lst (rss.map rowP) ∧ rss.length = n ∧ RowsOk c rss := by
  refine T.all_bind.mpr ?_
  show T.all _ (m__law_rows [.val .pot, .val (.int (c : Int)), .val (.int (n : Int)), .un, .un, .un, .un])
  refine seq_nx (all_eq rfl ⟨_, rfl, seq_nx ?_⟩)
  show T.all _ ((iRg rng1 (aCons (eVar 2) aNil) [.val .pot, .val (.int (c : Int)), .val (.int (n : Int)), .own [], .un, .un, .un]).bind fun ds => forT _ ds _)
  rw [rng_val (k := n) (var_val rfl) (by omega)]
  refine T.all_mono (fun o ho => ?_) (for_inv (P := fun k ρ => ∃ (rss : List (List Rat)) (x4 x5 x6 : Ent), ρ = [.val .pot, .val (.int (c : Int)), .val (.int (n : Int)), .own (rss.map rowP), x4, x5, x6] ∧ rss.length = k ∧ RowsOk c rss) (k := 0) ⟨[], .un, .un, .un, rfl, rfl, fun x hx => (List.not_mem_nil hx).elim⟩ fun i d ρ hi hd hp => ?_)
  · obtain ⟨ρ', rfl, rss, x4, x5, x6, rfl, hl, g⟩ := ho
    rw [upto_len, Nat.zero_add] at hl
    exact ⟨_, rfl, rss, rfl, hl, g⟩
  · obtain ⟨rss, x4, x5, x6, rfl, hl, g⟩ := hp
    have hi2 : i < n := by
      have := (List.getElem?_eq_some_iff.mp hd).1
      rw [upto_len] at this
      omega
    refine T.all_bind.mpr (all_eq (a := [.val .pot, .val (.int (c : Int)), .val (.int (n : Int)), .own (rss.map rowP), .val d, x5, x6]) rfl ?_)
    refine seq_nx (all_eq rfl ⟨_, rfl, seq_nx ?_⟩)
    show T.all _ ((iRg rng1 (aCons (eVar 1) aNil) [.val .pot, .val (.int (c : Int)), .val (.int (n : Int)), .own (rss.map rowP), .val d, .own [], x6]).bind fun ds => forT _ ds _)
    rw [rng_val (k := c) (var_val rfl) (by omega)]
    refine T.all_mono (fun o ho => ?_) (row_loop (c := c) (x1 := .val (.int (c : Int))) (x2 := .val (.int (n : Int))) (x3 := .own (rss.map rowP)) (x4 := .val d) (z := x6) (n := c) (by omega))
    obtain ⟨ρ', rfl, rs, a, rfl, hl2, g2⟩ := ho
    refine ⟨_, rfl, ?_⟩
    show T.all _ (sApp 3 (eVar 5) [.val .pot, .val (.int (c : Int)), .val (.int (n : Int)), .own (rss.map rowP), .val d, .val (rowP rs), a])
    rw [app_val (i := 3) (ds := rss.map rowP) (d := rowP rs) rfl rfl (by simp; omega)]
    refine ⟨_, rfl, rss ++ [rs], .val d, _, _, by rw [List.map_append]; rfl, by simp [hl], fun y hy => ?_⟩
    rcases List.mem_append.mp hy with z | z
    · exact g y z
    · rw [List.mem_singleton.mp z]; exact ⟨hl2, g2⟩
/-! a word -/
def LtOk (c : Nat) (l : List Nat) : Prop := l.length = c ∧ ∀ p ∈ l, p ≤ 2
theorem letter_all {c : Nat} (hc : c ≤ 3) : (f__law_letter [.pot, .int (c : Int), .int 2]).all fun d => ∃ l, d = nt l ∧ LtOk c l := by
  refine T.all_bind.mpr ?_
  show T.all _ (m__law_letter [.val .pot, .val (.int (c : Int)), .val (.int 2), .un, .un])
  refine seq_nx (all_eq rfl ⟨_, rfl, seq_nx ?_⟩)
  show T.all _ ((iRg rng1 (aCons (eVar 1) aNil) [.val .pot, .val (.int (c : Int)), .val (.int 2), .own [], .un]).bind fun ds => forT _ ds _)
  rw [rng_val (k := c) (var_val rfl) (by omega)]
  refine T.all_mono (fun o ho => ?_) (for_inv (P := fun k ρ => ∃ (l : List Nat) (a : Ent), ρ = [.val .pot, .val (.int (c : Int)), .val (.int 2), .own (l.map nI), a] ∧ l.length = k ∧ ∀ p ∈ l, p ≤ 2) (k := 0) ⟨[], .un, rfl, rfl, fun x hx => (List.not_mem_nil hx).elim⟩ fun i d ρ hi hd hp => ?_)
  · obtain ⟨ρ', rfl, l, a, rfl, hl, g⟩ := ho
    refine ⟨_, rfl, ?_⟩
    rw [upto_len, Nat.zero_add] at hl
    show T.all _ ((eCa bTuple (aCons (eVar 3) aNil) [.val .pot, .val (.int (c : Int)), .val (.int 2), .val (.lst (l.map nI)), a]).bind fun d => .ret (Out.rt d))
    have s := small_of (ds := l.map nI) (by simp; omega)
    have e : eCa bTuple (aCons (eVar 3) aNil) [.val .pot, .val (.int (c : Int)), .val (.int 2), .val (.lst (l.map nI)), a] = .ret (nt l) := by
      simp only [eCa, aCons, aNil, eVar, List.getElem?_cons_succ, List.getElem?_cons_zero, T.bind, bTuple, s, cond]
      rfl
    rw [e]
    exact ⟨l, rfl, hl, g⟩
  · obtain ⟨l, a, rfl, hl, g⟩ := hp
    have hi2 : i < c := by
      have := (List.getElem?_eq_some_iff.mp hd).1
      rw [upto_len] at this
      omega
    show T.all _ (sApp 3 (eCall 2 f__law_draw (aCons (eVar 0) (aCons (eBin opAdd (eVar 2) (eC (.int 1))) aNil))) [.val .pot, .val (.int (c : Int)), .val (.int 2), .own (l.map nI), .val d])
    refine app_all (i := 3) rfl (by simp; omega) (all_dr (drawE (n := 3) rfl rfl (by decide) (by decide)) fun p hp => ?_)
    refine ⟨_, rfl, l ++ [p], _, by rw [List.map_append]; rfl, by simp [hl], fun y hy => ?_⟩
    rcases List.mem_append.mp hy with z | z
    · exact g y z
    · rw [List.mem_singleton.mp z]; omega
theorem word_all {c n : Nat} (hc : c ≤ 3) (hn : n ≤ 100) : (f__law_word [.pot, .int (c : Int), .int (n : Int)]).all fun d => ∃ ls, d = nw ls ∧ ls.length = n ∧ ∀ l ∈ ls, LtOk c l := by
  refine T.all_bind.mpr ?_
  show T.all _ (m__law_word [.val .pot, .val (.int (c : Int)), .val (.int (n : Int)), .un, .un])
  refine seq_nx (all_eq rfl ⟨_, rfl, seq_nx ?_⟩)
  show T.all _ ((iRg rng1 (aCons (eVar 2) aNil) [.val .pot, .val (.int (c : Int)), .val (.int (n : Int)), .own [], .un]).bind fun ds => forT _ ds _)
  rw [rng_val (k := n) (var_val rfl) (by omega)]
  refine T.all_mono (fun o ho => ?_) (for_inv (P := fun k ρ => ∃ (ls : List (List Nat)) (a : Ent), ρ = [.val .pot, .val (.int (c : Int)), .val (.int (n : Int)), .own (ls.map nt), a] ∧ ls.length = k ∧ ∀ l ∈ ls, LtOk c l) (k := 0) ⟨[], .un, rfl, rfl, fun x hx => (List.not_mem_nil hx).elim⟩ fun i d ρ hi hd hp => ?_)
  · obtain ⟨ρ', rfl, l, a, rfl, hl, g⟩ := ho
    refine ⟨_, rfl, ?_⟩
    rw [upto_len, Nat.zero_add] at hl
    show T.all _ ((eCa bTuple (aCons (eVar 3) aNil) [.val .pot, .val (.int (c : Int)), .val (.int (n : Int)), .val (.lst (l.map nt)), a]).bind fun d => .ret (Out.rt d))
    have s := small_of (ds := l.map nt) (by simp; omega)
    have e : eCa bTuple (aCons (eVar 3) aNil) [.val .pot, .val (.int (c : Int)), .val (.int (n : Int)), .val (.lst (l.map nt)), a] = .ret (nw l) := by
      simp only [eCa, aCons, aNil, eVar, List.getElem?_cons_succ, List.getElem?_cons_zero, T.bind, bTuple, s, cond]
      rfl
    rw [e]
    exact ⟨l, rfl, hl, g⟩
  · obtain ⟨l, a, rfl, hl, g⟩ := hp
    have hi2 : i < n := by
      have := (List.getElem?_eq_some_iff.mp hd).1
      rw [upto_len] at this
      omega
    show T.all _ (sApp 3 (eCall 3 f__law_letter (aCons (eVar 0) (aCons (eVar 1) (aCons (eC (.int 2)) aNil)))) [.val .pot, .val (.int (c : Int)), .val (.int (n : Int)), .own (l.map nt), .val d])
    refine app_all (i := 3) rfl (by simp; omega) (call3_all (all_eq (var_val rfl) (all_eq (var_val rfl) (all_eq (a := .int 2) rfl (T.all_mono (fun x hx => ?_) (letter_all hc))))))
    obtain ⟨p, rfl, sp⟩ := hx
    refine ⟨_, rfl, l ++ [p], _, by rw [List.map_append]; rfl, by simp [hl], fun y hy => ?_⟩
    rcases List.mem_append.mp hy with z | z
    · exact g y z
    · rw [List.mem_singleton.mp z]; exact sp
/-! a table -/
@[irreducible] def paF : List D → T D := f__law_passed
theorem pa_all {rs : List Rat} (h : rs.length ≤ 3) (g : ∀ r ∈ rs, Sz 2 r) : T.all (fun d => ∃ ds, d = .lst ds ∧ NumL ds rs) (paF [.pot, rowP rs]) := by
  unfold paF
  exact passed_all h g
theorem comp_tab {c : Nat} {x1 x2 : Ent} (hc : c ≤ 3) : ∀ (rss : List (List Rat)) {acc : List D} {qss : List (List Rat)}, RowsL c acc qss → acc.length + rss.length ≤ 1000 → RowsOk c rss → (compT (gNm 3) yesT (eCall 2 paF (aCons (eVar 0) (aCons (eVar 3) aNil))) [.val .pot, x1, x2, .un] (rss.map rowP) acc).all fun vs => RowsL c vs (qss ++ rss)
  | [], acc, qs, h, _, _ => by
    show RowsL c acc (qs ++ [])
    rw [List.append_nil]
    exact h
  | r :: rs, acc, qs, h, hl, g => by
    rw [List.length_cons] at hl
    have s : small acc = true := decide_eq_true (by omega)
    have e : compT (gNm 3) yesT (eCall 2 paF (aCons (eVar 0) (aCons (eVar 3) aNil))) [.val .pot, x1, x2, .un] ((r :: rs).map rowP) acc = (eCall 2 paF (aCons (eVar 0) (aCons (eVar 3) aNil)) [.val .pot, x1, x2, .val (rowP r)]).bind fun y => cond (small acc) (compT (gNm 3) yesT (eCall 2 paF (aCons (eVar 0) (aCons (eVar 3) aNil))) [.val .pot, x1, x2, .un] (rs.map rowP) (acc ++ [y])) .fail := rfl
    have gr := g r List.mem_cons_self
    rw [e, s]
    refine T.all_bind.mpr (call2_val rfl rfl (T.all_mono (fun d hd => ?_) (pa_all (by rw [gr.1]; exact hc) gr.2)))
    obtain ⟨ds, rfl, hn⟩ := hd
    have ih := comp_tab (x1 := x1) (x2 := x2) hc rs (acc := acc ++ [.lst ds]) (qss := qs ++ [r]) (h.app (.cons (.inl rfl) hn (by rw [hn.len]; exact gr.1) .nil)) (by simp; omega) fun x hx => g x (List.mem_cons_of_mem _ hx)
    rw [List.append_assoc] at ih
    exact ih
@[irreducible] def taF : List D → T D := f__law_table
@[irreducible] def taR : Rho → T D := eL (lComp [3] (iLst (eVar 2)) (gNm 3) yesT (eCall 2 paF (aCons (eVar 0) (aCons (eVar 3) aNil))))
@[irreducible] def tiF : List D → T (List (Str × D)) := f_Table_init
theorem tiF_val {c : Nat} {vs : List D} {rss : List (List Rat)} (h : RowsL c vs rss) (h3 : c ≤ 3) (h40 : vs.length ≤ 40) : tiF [.int (c : Int), .lst vs] = .ret (tabF c rss) := by
  unfold tiF
  exact table_val h h3 h40
theorem ta_eq : m__law_table = sRet (eMake "Table" 2 [] tiF (aCons (eVar 1) (aCons taR aNil))) := by
  unfold m__law_table taR paF tiF
  rfl
theorem make_all {c : Nat} {rss : List (List Rat)} {ρ : Rho} {a b : Rho → T D} (ha : a ρ = .ret (.int (c : Int))) (hb : (b ρ).all fun d => ∃ vs, d = .lst vs ∧ RowsL c vs rss) (c3 : c ≤ 3) (h40 : rss.length ≤ 40) : (eMake "Table" 2 [] tiF (aCons a (aCons b aNil)) ρ).all fun d => d = tabD c rss := by
  refine T.all_bind.mpr (T.all_bind.mpr (all_eq ha (T.all_bind.mpr (T.all_bind.mpr (T.all_mono (fun d hd => ?_) hb)))))
  obtain ⟨vs, rfl, h⟩ := hd
  have t := tiF_val h c3 (by rw [h.len]; exact h40)
  show T.all _ (cond (2 == 2) ((tiF ([.int (c : Int), .lst vs] ++ [])).bind fun fs => T.ret (D.ins "Table" fs)) T.fail)
  rw [List.append_nil, t]
  rfl
theorem ta_all {c : Nat} {rss : List (List Rat)} (c3 : c ≤ 3) (h : rss.length ≤ 40) (g : RowsOk c rss) : T.all (fun d => d = tabD c rss) (taF [.pot, .int (c : Int), .lst (rss.map rowP)]) := by
  unfold taF f__law_table runB
  rw [ta_eq]
  have r : T.all (fun d => ∃ vs, d = .lst vs ∧ RowsL c vs rss) (taR [.val .pot, .val (.int (c : Int)), .val (.lst (rss.map rowP)), .un]) := by
    unfold taR
    refine T.all_bind.mpr ?_
    show T.all _ (compT (gNm 3) yesT (eCall 2 paF (aCons (eVar 0) (aCons (eVar 3) aNil))) [.val .pot, .val (.int (c : Int)), .val (.lst (rss.map rowP)), .un] (rss.map rowP) [])
    exact T.all_mono (fun vs hv => ⟨vs, rfl, hv⟩) (comp_tab c3 rss .nil (by simp; omega) g)
  refine T.all_bind.mpr (T.all_bind.mpr (T.all_mono (fun d hd => ?_) (make_all (c := c) (rss := rss) (a := eVar 1) (b := taR) rfl r c3 h)))
  subst hd
  rfl
end Pd

/-! The law's def over a table and a word, by parts. -/
namespace Pd
open PySem L2 PySem.Spec PyProof.Rows
/-! alike -/
theorem same_nt (l : List Nat) : D.same eRat (nt l) (nt l) = true := same_ints l
theorem same_nts : ∀ ls : List (List Nat), D.sames eRat (ls.map nt) (ls.map nt) = true
  | [] => rfl
  | l :: ls => by
    show (D.same eRat (nt l) (nt l) && D.sames eRat (ls.map nt) (ls.map nt)) = true
    rw [same_nt, same_nts ls]
    rfl
theorem same_nw (ls : List (List Nat)) : D.same eRat (nw ls) (nw ls) = true := same_nts ls
theorem hgt_nt1 (l : List Nat) : D.hgt (nt l) = 1 := by
  show D.hgts (l.map nI) + 1 = 1
  rw [hgt_ints]
theorem hgt_nts : ∀ ls : List (List Nat), D.hgts (ls.map nt) ≤ 1
  | [] => Nat.zero_le _
  | l :: ls => by
    show max (D.hgt (nt l)) (D.hgts (ls.map nt)) ≤ 1
    rw [hgt_nt1]
    exact Nat.max_le.mpr ⟨Nat.le_refl _, hgt_nts ls⟩
theorem hgt_nw (ls : List (List Nat)) : D.hgt (nw ls) ≤ 2 := Nat.succ_le_succ (hgt_nts ls)
theorem ne_nw (ls : List (List Nat)) : neS (nw ls) (nw ls) = .ret (.bl false) := ne_same (same_nw ls) rfl (decide_eq_true (Nat.le_trans (hgt_nw ls) (by decide)))
theorem same_pairs (f g : Nat → List (List Nat)) : ∀ js : List Nat, D.sames eRat (js.map fun i => .tup [nw (f i), nw (g i)]) (js.map fun i => .tup [nw (f i), nw (g i)]) = true
  | [] => rfl
  | j :: js => by
    show (D.same eRat (.tup [nw (f j), nw (g j)]) (.tup [nw (f j), nw (g j)]) && D.sames eRat (js.map fun i => .tup [nw (f i), nw (g i)]) (js.map fun i => .tup [nw (f i), nw (g i)])) = true
    rw [same_pairs f g js]
    show ((D.same eRat (nw (f j)) (nw (f j)) && (D.same eRat (nw (g j)) (nw (g j)) && true)) && true) = true
    rw [same_nw, same_nw]
    rfl
theorem hgt_pairs (f g : Nat → List (List Nat)) : ∀ js : List Nat, D.hgts (js.map fun i => .tup [nw (f i), nw (g i)]) ≤ 3
  | [] => Nat.zero_le _
  | j :: js => by
    show max (max (D.hgt (nw (f j))) (max (D.hgt (nw (g j))) 0) + 1) (D.hgts (js.map fun i => .tup [nw (f i), nw (g i)])) ≤ 3
    have a := hgt_nw (f j)
    have b := hgt_nw (g j)
    exact Nat.max_le.mpr ⟨Nat.succ_le_succ (Nat.max_le.mpr ⟨a, Nat.max_le.mpr ⟨b, Nat.zero_le _⟩⟩), hgt_pairs f g js⟩
theorem ne_cuts (ls : List (List Nat)) : neS (.lst (cutsD ls)) (.lst (cutsD ls)) = .ret (.bl false) := ne_same (same_pairs _ _ _) rfl (decide_eq_true (Nat.succ_le_succ (hgt_pairs _ _ _)))
theorem eq_cuts (ls : List (List Nat)) : eqS (.lst (cutsD ls)) (.lst (cutsD ls)) = .ret (.bl true) := eq_same (same_pairs _ _ _) rfl (decide_eq_true (Nat.succ_le_succ (hgt_pairs _ _ _)))
theorem ne_fl (f : Nat → Rat) (n : Nat) : neS (.lst (fl f n)) (.lst (fl f n)) = .ret (.bl false) := by
  have e : fl f n = ((List.range n).map f).map qR := by
    unfold fl
    rw [List.map_map]
    rfl
  rw [e]
  exact ne_qs _
/-! rules -/
theorem callK2_all {ρ : Rho} {a b : Rho → T D} {f : List D → T D} {P : D → Prop} (h : (a ρ).all fun x => (b ρ).all fun y => (f [y, x]).all P) : (eCallK 2 [1, 0] f (aCons a (aCons b aNil)) ρ).all P :=
  T.all_bind.mpr (T.all_bind.mpr (T.all_mono (fun x hx => T.all_bind.mpr (T.all_bind.mpr (T.all_mono (fun y hy => hy) hx))) h))
theorem lcall2_all {ρ : Rho} {a b : Rho → T D} {f : List D → T (List D)} {P : List D → Prop} (h : (a ρ).all fun x => (b ρ).all fun y => (f [x, y]).all P) : (lCallF 2 f (aCons a (aCons b aNil)) ρ).all P :=
  T.all_bind.mpr (T.all_bind.mpr (T.all_mono (fun x hx => T.all_bind.mpr (T.all_bind.mpr (T.all_mono (fun y hy => hy) hx))) h))
theorem lcallK2_all {ρ : Rho} {a b : Rho → T D} {f : List D → T (List D)} {P : List D → Prop} (h : (a ρ).all fun x => (b ρ).all fun y => (f [y, x]).all P) : (lCallKF 2 [1, 0] f (aCons a (aCons b aNil)) ρ).all P :=
  T.all_bind.mpr (T.all_bind.mpr (T.all_mono (fun x hx => T.all_bind.mpr (T.all_bind.mpr (T.all_mono (fun y hy => hy) hx))) h))
theorem eL_all {ρ : Rho} {ml : Rho → T (List D)} {P : D → Prop} (h : (ml ρ).all fun ds => P (.lst ds)) : (eL ml ρ).all P := T.all_bind.mpr h
theorem peek_all {ρ : Rho} {i : Nat} {ds : List D} {b : Rho → T D} {f : D → D → T D} {r : Bool} (h : ρ[i]? = some (.own ds)) (hb : (b ρ).all fun d => d = .lst ds) (e : f (.lst ds) (.lst ds) = .ret (.bl r)) : (ePeek f i b ρ).all fun d => d = .bl r := by
  unfold ePeek
  rw [h]
  refine T.all_bind.mpr (T.all_mono (fun d hd => ?_) hb)
  subst hd
  refine T.all_bind.mpr (all_eq e ?_)
  rfl
@[irreducible] def raF : List D → T D := f__law_ratio
theorem ra_all {q : Rat} {n : Nat} (h : Sz n q) (l : n ≤ 9000) : T.all (fun d => d = qR q) (raF [qP q]) := by
  unfold raF
  rw [law_ratio_val h l]
  exact rfl
@[irreducible] def lrF : List D → T D := f__law_rows
theorem lr_all {c n : Nat} (hc : c ≤ 3) (hn : n ≤ 100) : T.all (fun d => ∃ rss : List (List Rat), d = .lst (rss.map rowP) ∧ rss.length = n ∧ RowsOk c rss) (lrF [.pot, .int (c : Int), .int (n : Int)]) := by
  unfold lrF
  exact rows_all hc hn
/-- the parts -/
@[irreducible] def O1 : Rho → T Out := sPar 8 9 (eCall 3 taF (aCons (eVar 0) (aCons (eVar 1) (aCons (eVar 2) aNil)))) (eCa bLen (aCons (eVar 2) aNil))
@[irreducible] def O2 : Rho → T Out := sSet 4 (eCall 1 raF (aCons (eCall 2 lsF (aCons (eVar 2) (aCons (eVar 3) aNil))) aNil))
@[irreducible] def O3 : Rho → T Out := sIf (tOr' (eTest (eBin neS (eCall 2 wuF (aCons (eVar 8) (aCons (eVar 3) aNil))) (eVar 4))) (eTest (eBin neS (eCallK 2 [1, 0] wuF (aCons (eVar 3) (aCons (eVar 8) aNil))) (eVar 4)))) (sRet (eC (.bl false))) bNil
@[irreducible] def O4 : Rho → T Out := sParL 10 11 (lCallF 2 saF (aCons (eVar 8) (aCons (eVar 3) aNil))) (eL (lCallKF 2 [1, 0] sbF (aCons (eVar 3) (aCons (eVar 8) aNil))))
@[irreducible] def O5b : Rho → T D := eL (lComp [16] (iRg rng1 (aCons (eBin opAdd (eVar 9) (eC (.int 1))) aNil)) (gNm 16) yesT (eCall 1 raF (aCons (eCall 2 lsF (aCons (eSl (eVar 2) oNo (oPart (eVar 16))) (aCons (eVar 3) aNil))) aNil)))
@[irreducible] def O5 : Rho → T Out := sIf (eTest (ePeek neS 10 O5b)) (sRet (eC (.bl false))) bNil
@[irreducible] def O6b : Rho → T D := eL (lComp [16] (iRg rng1 (aCons (eBin opAdd (eVar 9) (eC (.int 1))) aNil)) (gNm 16) yesT (eCall 1 raF (aCons (eCall 2 lsF (aCons (eSl (eVar 2) (oPart (eVar 16)) oNo) (aCons (eVar 3) aNil))) aNil)))
@[irreducible] def O6 : Rho → T Out := sIf (eTest (eBin neS (eVar 11) O6b)) (sRet (eC (.bl false))) bNil
@[irreducible] def O8 : Rho → T Out := sOwn 5 (cuE 3 16)
@[irreducible] def O9 : Rho → T Out := sOwn 6 (lCallF 2 cuF (aCons (eVar 1) (aCons (eVar 3) aNil)))
@[irreducible] def O10 : Rho → T Out := sIf (tOr' (eTest (ePeek neS 6 (eVar 5))) (tOr' (eTest (eBin neS (eCall 2 twF (aCons (eVar 1) (aCons (eVar 3) aNil))) (eRevT (eVar 3)))) (eTest (eBin neS (eCall 2 wuF (aCons (eCall 1 tuF (aCons (eVar 8) aNil)) (aCons (eRevT (eVar 3)) aNil))) (eVar 4))))) (sRet (eC (.bl false))) bNil
@[irreducible] def O12 : Rho → T Out := sSet 7 (eCall 3 lrF (aCons (eVar 0) (aCons (eVar 1) (aCons (eCall 2 f__law_draw (aCons (eVar 0) (aCons (eC (.int 3)) aNil))) aNil))))
@[irreducible] def O13 : Rho → T Out := sPar 12 13 (eCall 3 taF (aCons (eVar 0) (aCons (eVar 1) (aCons (eVar 7) aNil)))) (eTup (aCons (eC (.int 0)) (aCons (eC (.int 1)) aNil)))
@[irreducible] def O14b : Rho → T Out := sSet 13 (eCall 2 plF (aCons (eVar 13) (aCons (eCall 2 tmF (aCons (eCall 2 lsF (aCons (eVar 2) (aCons (eVar 14) aNil))) (aCons (eCall 2 lsF (aCons (eVar 7) (aCons (eVar 15) aNil))) aNil))) aNil)))
@[irreducible] def O14 : Rho → T Out := sFor (iLst (eVar 5)) (gTp 2 (gsCons (gNm 14) (gsCons (gNm 15) gsNil))) O14b
@[irreducible] def O15 : Rho → T Out := sIf (eTest (eBin neS (eCall 2 wuF (aCons (eCall 2 joF (aCons (eVar 8) (aCons (eVar 12) aNil))) (aCons (eVar 3) aNil))) (eCall 1 raF (aCons (eVar 13) aNil)))) (sRet (eC (.bl false))) bNil
@[irreducible] def O16 : Rho → T Out := sRet (eAnd (eBin eqS (eL (lCallKF 2 [1, 0] cuF (aCons (eVar 3) (aCons (eVar 1) aNil)))) (eVar 5)) (eBin eqS (eCa bLen (aCons (eL (lCallF 2 saF (aCons (eVar 8) (aCons (eVar 3) aNil)))) aNil)) (eBin opAdd (eVar 9) (eC (.int 1)))))
theorem one_eq : m__law_one_right = bSeq O1 (bSeq O2 (bSeq O3 (bSeq O4 (bSeq O5 (bSeq O6 (bSeq (sApp 10 (eC .non)) (bSeq O8 (bSeq O9 (bFreeze 5 (bSeq O10 (bSeq (sApp 6 (eC .non)) (bSeq O12 (bSeq O13 (bSeq O14 (bSeq O15 O16))))))))))))))) := by
  unfold m__law_one_right O1 O2 O3 O4 O5 O5b O6 O6b O8 O9 O10 O12 O13 O14 O14b O15 O16 cuE neS eqS taF raF lsF wuF saF sbF cuF twF tuF joF lrF plF tmF
  rfl
end Pd

/-! The parts of the law's def, one by one. -/
namespace Pd
open PySem L2 PySem.Spec PyProof.Rows
/-- what the law's names hold -/
abbrev en (c : Nat) (rss : List (List Rat)) (ls : List (List Nat)) (e4 e5 e6 e7 e8 e9 e10 e11 e12 e13 e14 e15 e16 : Ent) : Rho := [.val .pot, .val (.int (c : Int)), .val (.lst (rss.map rowP)), .val (nw ls), e4, e5, e6, e7, e8, e9, e10, e11, e12, e13, e14, e15, e16]
section
variable {c : Nat} {ls : List (List Nat)} {rss qss : List (List Rat)} {e4 e5 e6 e7 e8 e9 e10 e11 e12 e13 e14 e15 e16 : Ent}
theorem Okw.ro (h : Okw c ls rss) : RowsOk c rss := fun rs hrs => ⟨h.hc rs hrs, h.hr rs hrs⟩
theorem Okw.sz (h : Okw c ls rss) : Sz 4000 (WS ls rss) := h.bd.dp _ _ (Nat.le_refl _) (Nat.le_refl _)
theorem len_rows {ρ : Rho} {i : Nat} (hi : ρ[i]? = some (.val (.lst (rss.map rowP)))) : eCa bLen (aCons (eVar i) aNil) ρ = .ret (nI rss.length) := by
  have e : bLen [.lst (rss.map rowP)] = .ret (nI rss.length) := by
    show T.ret (D.int ((rss.map rowP).length : Int)) = _
    rw [List.length_map]
    rfl
  simp only [eCa, aCons, aNil, eVar, hi, T.bind, e]
theorem o1 (h : Okw c ls rss) : T.all (fun o => o = .nx (en c rss ls e4 e5 e6 e7 (.val (tabD c rss)) (.val (nI rss.length)) e10 e11 e12 e13 e14 e15 e16)) (O1 (en c rss ls e4 e5 e6 e7 e8 e9 e10 e11 e12 e13 e14 e15 e16)) := by
  unfold O1
  refine par_all (call3_all (all_eq (a := .pot) rfl (all_eq (a := .int (c : Int)) rfl (all_eq (a := .lst (rss.map rowP)) rfl (T.all_mono (fun d hd => ?_) (ta_all h.c3 (by have := h.h8; omega) h.ro))))))
  subst hd
  refine all_eq (len_rows (rss := rss) rfl) ?_
  rfl
theorem o2 (h : Okw c ls rss) (h5 : rss.length ≤ 5) : T.all (fun o => o = .nx (en c rss ls (.val (qR (WS ls rss))) e5 e6 e7 e8 e9 e10 e11 e12 e13 e14 e15 e16)) (O2 (en c rss ls e4 e5 e6 e7 e8 e9 e10 e11 e12 e13 e14 e15 e16)) := by
  unfold O2
  refine set_all (call1_all (call2_all (all_eq (a := .lst (rss.map rowP)) rfl (all_eq (a := nw ls) rfl (T.all_mono (fun d hd => ?_) (ls_all h h5))))))
  subst hd
  refine T.all_mono (fun d hd => ?_) (ra_all h.sz (by omega))
  subst hd
  rfl
theorem o3 (h : Okw c ls rss) : T.all (fun o => o = .nx (en c rss ls (.val (qR (WS ls rss))) e5 e6 e7 (.val (tabD c rss)) e9 e10 e11 e12 e13 e14 e15 e16)) (O3 (en c rss ls (.val (qR (WS ls rss))) e5 e6 e7 (.val (tabD c rss)) e9 e10 e11 e12 e13 e14 e15 e16)) := by
  unfold O3
  refine if_no (or_false' (test_all (ne_all (x := qR (WS ls rss)) (call2_all (all_eq (a := tabD c rss) rfl (all_eq (a := nw ls) rfl (wu_all h)))) (var_all rfl) (ne_q _))) (test_all (ne_all (x := qR (WS ls rss)) (callK2_all (all_eq (a := nw ls) rfl (all_eq (a := tabD c rss) rfl (wu_all h)))) (var_all rfl) (ne_q _)))) ?_
  rfl
/-- the sums ahead, behind, as told -/
def aD (ls : List (List Nat)) (rss : List (List Rat)) : List D := fl (fun a => WS ls (rss.take a)) (rss.length + 1)
def bD (ls : List (List Nat)) (rss : List (List Rat)) : List D := fl (fun a => WS ls (rss.drop a)) (rss.length + 1)
theorem fl_congr {f g : Nat → Rat} {n : Nat} (h : ∀ a, a < n → f a = g a) : fl f n = fl g n := by
  unfold fl
  exact List.map_congr_left fun a ha => by rw [h a (List.mem_range.mp ha)]
theorem aD_eq : fl (dpS (wS ls rss) ls.length) (rss.length + 1) = aD ls rss :=
  fl_congr fun a ha => (WS_take (by omega)).symm
theorem fl_rev (f : Nat → Rat) (n : Nat) : (fl f (n + 1)).reverse = fl (fun a => f (n - a)) (n + 1) := by
  refine List.ext_getElem? fun i => ?_
  by_cases hi : i < n + 1
  · rw [List.getElem?_reverse (by rw [fl_len]; exact hi), fl_len, fl_get (show n + 1 - 1 - i < n + 1 by omega), fl_get hi, show n + 1 - 1 - i = n - i by omega]
  · rw [List.getElem?_eq_none (by rw [List.length_reverse, fl_len]; omega), List.getElem?_eq_none (by rw [fl_len]; omega)]
theorem bD_eq : (fl (dpS (wS ls.reverse rss.reverse) ls.length) (rss.length + 1)).reverse = bD ls rss := by
  rw [fl_rev]
  exact fl_congr fun a ha => (WS_drop (by omega)).symm
theorem o4 (h : Okw c ls rss) : T.all (fun o => o = .nx (en c rss ls e4 e5 e6 e7 (.val (tabD c rss)) e9 (.own (aD ls rss)) (.val (.lst (bD ls rss))) e12 e13 e14 e15 e16)) (O4 (en c rss ls e4 e5 e6 e7 (.val (tabD c rss)) e9 e10 e11 e12 e13 e14 e15 e16)) := by
  unfold O4
  refine T.all_bind.mpr (lcall2_all (all_eq (a := tabD c rss) rfl (all_eq (a := nw ls) rfl (T.all_mono (fun ds hd => ?_) (sa_all h)))))
  rw [aD_eq] at hd
  subst hd
  refine T.all_bind.mpr (eL_all (lcallK2_all (all_eq (a := nw ls) rfl (all_eq (a := tabD c rss) rfl (T.all_mono (fun ds hd => ?_) (sb_all h))))))
  rw [bD_eq] at hd
  subst hd
  rfl
theorem succ_val {ρ : Rho} {i n : Nat} (hi : ρ[i]? = some (.val (nI n))) : eBin opAdd (eVar i) (eC (.int 1)) ρ = .ret (.int ((n + 1 : Nat) : Int)) := by
  unfold nI at hi
  simp only [eBin, eVar, eC, hi, T.bind, opAdd]
  rw [show ((n + 1 : Nat) : Int) = (n : Int) + 1 by omega]
theorem sum_at (h : Okw c ls rss) (h5 : rss.length ≤ 5) {ρ : Rho} {m : Rho → T D} {q : List (List Rat)} (hm : m ρ = .ret (.lst (q.map rowP))) (hw : ρ[3]? = some (.val (nw ls))) (hq : ∀ r ∈ q, r ∈ rss) (hl : q.length ≤ rss.length) : (eCall 1 raF (aCons (eCall 2 lsF (aCons m (aCons (eVar 3) aNil))) aNil) ρ).all fun d => d = qR (WS ls q) := by
  have hk : Okw c ls q := h.sub (fun _ h => h) (Nat.le_refl _) hq hl
  refine call1_all (call2_all (all_eq hm (all_eq (var_val hw) (T.all_mono (fun d hd => ?_) (ls_all hk (by omega))))))
  subst hd
  exact ra_all hk.sz (by omega)
theorem lComp_all {vs : List Nat} {mi : Rho → T (List D)} {g : D → Rho → T Rho} {mt : Rho → T Bool} {me : Rho → T D} {ρ : Rho} {ds : List D} {P : List D → Prop} (hi : mi ρ = .ret ds) (h : (compT g mt me (wipeR ρ vs) ds []).all P) : (lComp vs mi g mt me ρ).all P :=
  T.all_bind.mpr (all_eq hi h)
theorem rng_at {ρ : Rho} {n : Nat} (h : ρ[9]? = some (.val (nI n))) (hn : n ≤ 1000) : iRg rng1 (aCons (eBin opAdd (eVar 9) (eC (.int 1))) aNil) ρ = .ret ((List.range (n + 1)).map nI) := by
  rw [rng_val (k := n + 1) (succ_val h) (by omega), upto_range]
theorem o5b (h : Okw c ls rss) (h5 : rss.length ≤ 5) : T.all (fun d => d = .lst (aD ls rss)) (O5b (en c rss ls e4 e5 e6 e7 e8 (.val (nI rss.length)) e10 e11 e12 e13 e14 e15 e16)) := by
  unfold O5b
  have r9 := rng_at (ρ := en c rss ls e4 e5 e6 e7 e8 (.val (nI rss.length)) e10 e11 e12 e13 e14 e15 e16) (n := rss.length) rfl (by omega)
  refine eL_all ?_
  unfold lComp
  rw [r9]
  show T.all _ (compT (gNm 16) yesT _ (en c rss ls e4 e5 e6 e7 e8 (.val (nI rss.length)) e10 e11 e12 e13 e14 e15 .un) ((List.range (rss.length + 1)).map nI) [])
  refine T.all_mono (fun es he => ?_) (compT_all (f := fun d => qR (WS ls (rss.take (unI d)))) (by simp; omega) fun d hd => ?_)
  · rw [he, List.nil_append, List.map_map]
    show D.lst _ = D.lst _
    congr 1
  · obtain ⟨i, hi, rfl⟩ := List.mem_map.mp hd
    have hi := List.mem_range.mp hi
    rw [un_I]
    have s := sl_loL (ρ := en c rss ls e4 e5 e6 e7 e8 (.val (nI rss.length)) e10 e11 e12 e13 e14 e15 (.val (nI i))) (p := 2) (q := 16) (i := i) (ds := rss.map rowP) rfl rfl (by rw [List.length_map]; omega)
    rw [← List.map_take] at s
    exact sum_at (ρ := en c rss ls e4 e5 e6 e7 e8 (.val (nI rss.length)) e10 e11 e12 e13 e14 e15 (.val (nI i))) h h5 s rfl (fun r hr => List.mem_of_mem_take hr) (by rw [List.length_take]; omega)
theorem o6b (h : Okw c ls rss) (h5 : rss.length ≤ 5) : T.all (fun d => d = .lst (bD ls rss)) (O6b (en c rss ls e4 e5 e6 e7 e8 (.val (nI rss.length)) e10 e11 e12 e13 e14 e15 e16)) := by
  unfold O6b
  have r9 := rng_at (ρ := en c rss ls e4 e5 e6 e7 e8 (.val (nI rss.length)) e10 e11 e12 e13 e14 e15 e16) (n := rss.length) rfl (by omega)
  refine eL_all ?_
  unfold lComp
  rw [r9]
  show T.all _ (compT (gNm 16) yesT _ (en c rss ls e4 e5 e6 e7 e8 (.val (nI rss.length)) e10 e11 e12 e13 e14 e15 .un) ((List.range (rss.length + 1)).map nI) [])
  refine T.all_mono (fun es he => ?_) (compT_all (f := fun d => qR (WS ls (rss.drop (unI d)))) (by simp; omega) fun d hd => ?_)
  · rw [he, List.nil_append, List.map_map]
    show D.lst _ = D.lst _
    congr 1
  · obtain ⟨i, hi, rfl⟩ := List.mem_map.mp hd
    have hi := List.mem_range.mp hi
    rw [un_I]
    have s := sl_hiL (ρ := en c rss ls e4 e5 e6 e7 e8 (.val (nI rss.length)) e10 e11 e12 e13 e14 e15 (.val (nI i))) (p := 2) (q := 16) (i := i) (ds := rss.map rowP) rfl rfl (by rw [List.length_map]; omega)
    rw [← List.map_drop] at s
    exact sum_at (ρ := en c rss ls e4 e5 e6 e7 e8 (.val (nI rss.length)) e10 e11 e12 e13 e14 e15 (.val (nI i))) h h5 s rfl (fun r hr => List.mem_of_mem_drop hr) (by rw [List.length_drop]; omega)
theorem o5 (h : Okw c ls rss) (h5 : rss.length ≤ 5) : T.all (fun o => o = .nx (en c rss ls e4 e5 e6 e7 e8 (.val (nI rss.length)) (.own (aD ls rss)) e11 e12 e13 e14 e15 e16)) (O5 (en c rss ls e4 e5 e6 e7 e8 (.val (nI rss.length)) (.own (aD ls rss)) e11 e12 e13 e14 e15 e16)) := by
  unfold O5
  refine if_no (test_all (peek_all (ds := aD ls rss) rfl (o5b h h5) (ne_fl _ _))) ?_
  rfl
theorem o6 (h : Okw c ls rss) (h5 : rss.length ≤ 5) : T.all (fun o => o = .nx (en c rss ls e4 e5 e6 e7 e8 (.val (nI rss.length)) e10 (.val (.lst (bD ls rss))) e12 e13 e14 e15 e16)) (O6 (en c rss ls e4 e5 e6 e7 e8 (.val (nI rss.length)) e10 (.val (.lst (bD ls rss))) e12 e13 e14 e15 e16)) := by
  unfold O6
  refine if_no (test_all (ne_all (x := .lst (bD ls rss)) (var_all rfl) (o6b h h5) (ne_fl _ _))) ?_
  rfl
theorem o8 (h : Okw c ls rss) : T.all (fun o => o = .nx (en c rss ls e4 (.own (cutsD ls)) e6 e7 e8 e9 e10 e11 e12 e13 e14 e15 e16)) (O8 (en c rss ls e4 e5 e6 e7 e8 e9 e10 e11 e12 e13 e14 e15 e16)) := by
  have e := cuE_val (ρ := en c rss ls e4 e5 e6 e7 e8 e9 e10 e11 e12 e13 e14 e15 e16) (p := 3) (q := 16) (ls := ls) rfl (by decide) (by simp) (by have := h.h4; omega)
  unfold O8
  refine T.all_bind.mpr (all_eq e ?_)
  rfl
theorem o9 (h : Okw c ls rss) : T.all (fun o => o = .nx (en c rss ls e4 e5 (.own (cutsD ls)) e7 e8 e9 e10 e11 e12 e13 e14 e15 e16)) (O9 (en c rss ls e4 e5 e6 e7 e8 e9 e10 e11 e12 e13 e14 e15 e16)) := by
  unfold O9
  refine T.all_bind.mpr (lcall2_all (all_eq (a := .int (c : Int)) rfl (all_eq (a := nw ls) rfl (T.all_mono (fun ds hd => ?_) (cu_all h.wd h.c3)))))
  subst hd
  rfl
theorem o10 (h : Okw c ls rss) : T.all (fun o => o = .nx (en c rss ls (.val (qR (WS ls rss))) (.val (.lst (cutsD ls))) (.own (cutsD ls)) e7 (.val (tabD c rss)) e9 e10 e11 e12 e13 e14 e15 e16)) (O10 (en c rss ls (.val (qR (WS ls rss))) (.val (.lst (cutsD ls))) (.own (cutsD ls)) e7 (.val (tabD c rss)) e9 e10 e11 e12 e13 e14 e15 e16)) := by
  have wr := wu_all h.rev
  rw [WS_rev] at wr
  unfold O10
  refine if_no (or_false' (test_all (peek_all (ds := cutsD ls) rfl (var_all rfl) (ne_cuts ls))) (or_false' (test_all (ne_all (x := nw ls.reverse) (call2_all (all_eq (a := .int (c : Int)) rfl (all_eq (a := nw ls) rfl (tw_all h.wd h.c3)))) (all_eq (revT_val rfl) rfl) (ne_nw _))) (test_all (ne_all (x := qR (WS ls rss)) (call2_all (call1_all (all_eq (a := tabD c rss) rfl (T.all_mono (fun d hd => ?_) (tu_all (by have := h.h8; omega) h.c3 h.hc))))) (var_all rfl) (ne_q _))))) ?_
  · subst hd
    exact all_eq (revT_val (ls := ls) rfl) wr
  · rfl
theorem o12 (h : Okw c ls rss) : T.all (fun o => ∃ qss, o = .nx (en c rss ls e4 e5 e6 (.val (.lst (qss.map rowP))) e8 e9 e10 e11 e12 e13 e14 e15 e16) ∧ qss.length ≤ 2 ∧ RowsOk c qss) (O12 (en c rss ls e4 e5 e6 e7 e8 e9 e10 e11 e12 e13 e14 e15 e16)) := by
  unfold O12
  refine set_all (call3_all (all_eq (a := .pot) rfl (all_eq (a := .int (c : Int)) rfl (all_dr (drawE (n := 3) rfl rfl (by decide) (by decide)) fun j hj => all_eq (a := .int (j : Int)) rfl (T.all_mono (fun d hd => ?_) (lr_all (n := j) h.c3 (by omega)))))))
  obtain ⟨qss, rfl, hl, g⟩ := hd
  exact ⟨qss, rfl, by omega, g⟩
theorem o13 (c3 : c ≤ 3) (hl : qss.length ≤ 2) (g : RowsOk c qss) : T.all (fun o => o = .nx (en c rss ls e4 e5 e6 (.val (.lst (qss.map rowP))) e8 e9 e10 e11 (.val (tabD c qss)) (.val (qP 0)) e14 e15 e16)) (O13 (en c rss ls e4 e5 e6 (.val (.lst (qss.map rowP))) e8 e9 e10 e11 e12 e13 e14 e15 e16)) := by
  have z : qP (0 : Rat) = .tup [.int 0, .int 1] := by simp [qP]
  unfold O13
  refine par_all (call3_all (all_eq (a := .pot) rfl (all_eq (a := .int (c : Int)) rfl (all_eq (a := .lst (qss.map rowP)) rfl (T.all_mono (fun d hd => ?_) (ta_all c3 (by omega) g))))))
  subst hd
  refine all_eq (a := qP 0) (by rw [z]; rfl) ?_
  rfl
end
end Pd

/-! The cuts' products, joined rows; the law's def over a table and a word comes out true. -/
namespace Pd
open PySem L2 PySem.Spec PyProof.Rows
theorem fb_near : ∀ k, k ≤ 4 → ∀ a, a ≤ 5 → fb k a ≤ 700 := by decide
theorem fb_far : ∀ k, k ≤ 4 → ∀ a, a ≤ 2 → fb k a ≤ 70 := by decide
section
variable {c : Nat} {ls : List (List Nat)} {rss qss : List (List Rat)} {e4 e5 e6 e7 e8 e9 e10 e11 e12 e13 e14 e15 e16 : Ent}
theorem Okw.sz2 (h : Okw c ls rss) : Sz (fb ls.length rss.length) (WS ls rss) :=
  dp_sz (fun k a hk ha => h.wz hk ha) _ _ (Nat.le_refl _) (Nat.le_refl _)
theorem Okw.near (h : Okw c ls rss) (h5 : rss.length ≤ 5) : Sz 700 (WS ls rss) := h.sz2.mono (fb_near _ h.h4 _ h5)
theorem Okw.far (h : Okw c ls rss) (h2 : rss.length ≤ 2) : Sz 70 (WS ls rss) := h.sz2.mono (fb_far _ h.h4 _ h2)
/-- the product at a cut -/
def cp (ls : List (List Nat)) (rss qss : List (List Rat)) (i : Nat) : Rat := WS (ls.take i) rss * WS (ls.drop i) qss
theorem lsF_at {ρ : Rho} {a b : Rho → T D} {ms : List (List Nat)} (h : Okw c ms rss) (h5 : rss.length ≤ 5) (ha : a ρ = .ret (.lst (rss.map rowP))) (hb : b ρ = .ret (nw ms)) : (eCall 2 lsF (aCons a (aCons b aNil)) ρ).all fun d => d = qP (WS ms rss) :=
  call2_all (all_eq ha (all_eq hb (ls_all h h5)))
theorem o14b {i : Nat} {t : Rat} {s : Nat} (h : Okw c ls rss) (h5 : rss.length ≤ 5) (g : Okw c ls qss) (g2 : qss.length ≤ 2) (st' : Sz s t) (sl : s ≤ 8000) : T.all (fun o => o = .nx (en c rss ls e4 e5 e6 (.val (.lst (qss.map rowP))) e8 e9 e10 e11 e12 (.val (qP (t + cp ls rss qss i))) (.val (nw (ls.take i))) (.val (nw (ls.drop i))) e16)) (O14b (en c rss ls e4 e5 e6 (.val (.lst (qss.map rowP))) e8 e9 e10 e11 e12 (.val (qP t)) (.val (nw (ls.take i))) (.val (nw (ls.drop i))) e16)) := by
  have h1 : Okw c (ls.take i) rss := h.sub (fun l hl => List.mem_of_mem_take hl) (by rw [List.length_take]; omega) (fun _ h => h) (Nat.le_refl _)
  have h2 : Okw c (ls.drop i) qss := g.sub (fun l hl => List.mem_of_mem_drop hl) (by rw [List.length_drop]; omega) (fun _ h => h) (Nat.le_refl _)
  have z1 := h1.near h5
  have z2 := h2.far g2
  have z3 := sz_mul z1 z2
  unfold O14b
  refine set_all (call2_all (all_eq (a := qP t) rfl (call2_all (T.all_mono (fun d hd => ?_) (lsF_at h1 h5 rfl rfl)))))
  subst hd
  refine T.all_mono (fun d hd => ?_) (lsF_at h2 (by omega) rfl rfl)
  subst hd
  refine all_eq (tmF_val z1 z2 (by omega)) (all_eq (plF_val st' z3 (by omega)) ?_)
  rfl
theorem o14 (h : Okw c ls rss) (h5 : rss.length ≤ 5) (g : Okw c ls qss) (g2 : qss.length ≤ 2) : T.all (fun o => ∃ e14' e15', o = .nx (en c rss ls e4 (.val (.lst (cutsD ls))) e6 (.val (.lst (qss.map rowP))) e8 e9 e10 e11 e12 (.val (qP (WS ls (rss ++ qss)))) e14' e15' e16)) (O14 (en c rss ls e4 (.val (.lst (cutsD ls))) e6 (.val (.lst (qss.map rowP))) e8 e9 e10 e11 e12 (.val (qP 0)) e14 e15 e16)) := by
  have h4 := h.h4
  unfold O14
  show T.all _ (forT (fun d ρ => (gTp 2 (gsCons (gNm 14) (gsCons (gNm 15) gsNil)) d ρ).bind O14b) (cutsD ls) (en c rss ls e4 (.val (.lst (cutsD ls))) e6 (.val (.lst (qss.map rowP))) e8 e9 e10 e11 e12 (.val (qP 0)) e14 e15 e16))
  refine T.all_mono (fun o ho => ?_) (for_inv (P := fun i ρ => i ≤ 5 ∧ ∃ a b, ρ = en c rss ls e4 (.val (.lst (cutsD ls))) e6 (.val (.lst (qss.map rowP))) e8 e9 e10 e11 e12 (.val (qP (sumR ((List.range i).map (cp ls rss qss))))) a b e16 ∧ Sz (1 + 780 * i) (sumR ((List.range i).map (cp ls rss qss)))) (k := 0) ⟨by omega, e14, e15, rfl, show Sz 1 (0 : Rat) from ⟨by decide, by decide⟩⟩ fun i d ρ hi hd hp => ?_)
  · obtain ⟨ρ', rfl, _, a, b, rfl, _⟩ := ho
    have l : (cutsD ls).length = ls.length + 1 := by unfold cutsD; simp
    rw [l, Nat.zero_add]
    have j : sumR ((List.range (ls.length + 1)).map (cp ls rss qss)) = WS ls (rss ++ qss) := WS_join.symm
    rw [j]
    exact ⟨_, _, rfl⟩
  · obtain ⟨i5, a, b, rfl, sz⟩ := hp
    rw [Nat.sub_zero] at hd
    have hi2 : i < ls.length + 1 := by
      have := (List.getElem?_eq_some_iff.mp hd).1
      have l : (cutsD ls).length = ls.length + 1 := by unfold cutsD; simp
      omega
    have ed : d = .tup [nw (ls.take i), nw (ls.drop i)] := by
      unfold cutsD at hd
      rw [List.getElem?_map, List.getElem?_range hi2] at hd
      exact (Option.some.inj hd).symm
    subst ed
    have sm : sumR ((List.range (i + 1)).map (cp ls rss qss)) = sumR ((List.range i).map (cp ls rss qss)) + cp ls rss qss i := by
      rw [List.range_succ, List.map_append, sumR_app]
      congr 1
      exact sumR_one _
    have h1 : Okw c (ls.take i) rss := h.sub (fun l hl => List.mem_of_mem_take hl) (by rw [List.length_take]; omega) (fun _ h => h) (Nat.le_refl _)
    have h2 : Okw c (ls.drop i) qss := g.sub (fun l hl => List.mem_of_mem_drop hl) (by rw [List.length_drop]; omega) (fun _ h => h) (Nat.le_refl _)
    have z3 : Sz 770 (cp ls rss qss i) := sz_mul (h1.near h5) (h2.far g2)
    show T.all _ (O14b (en c rss ls e4 (.val (.lst (cutsD ls))) e6 (.val (.lst (qss.map rowP))) e8 e9 e10 e11 e12 (.val (qP (sumR ((List.range i).map (cp ls rss qss))))) (.val (nw (ls.take i))) (.val (nw (ls.drop i))) e16))
    refine T.all_mono (fun o ho => ?_) (o14b h h5 g g2 sz (by omega))
    subst ho
    rw [sm]
    exact ⟨_, rfl, by omega, _, _, rfl, (sz_add sz z3).mono (by omega)⟩
theorem o15 (h : Okw c ls rss) (h5 : rss.length ≤ 5) (g : Okw c ls qss) (g2 : qss.length ≤ 2) : T.all (fun o => o = .nx (en c rss ls e4 e5 e6 e7 (.val (tabD c rss)) e9 e10 e11 (.val (tabD c qss)) (.val (qP (WS ls (rss ++ qss)))) e14 e15 e16)) (O15 (en c rss ls e4 e5 e6 e7 (.val (tabD c rss)) e9 e10 e11 (.val (tabD c qss)) (.val (qP (WS ls (rss ++ qss)))) e14 e15 e16)) := by
  have ha := h.app g (by omega)
  unfold O15
  refine if_no (test_all (ne_all (x := qR (WS ls (rss ++ qss))) (call2_all (call2_all (all_eq (a := tabD c rss) rfl (all_eq (a := tabD c qss) rfl (T.all_mono (fun d hd => ?_) (jo_all (by omega) h.c3 h.hc g.hc)))))) (call1_all (all_eq (a := qP (WS ls (rss ++ qss))) rfl (ra_all ha.sz (by omega)))) (ne_q _))) ?_
  · subst hd
    exact all_eq (a := nw ls) rfl (wu_all ha)
  · rfl
theorem o16 (h : Okw c ls rss) : T.all (fun o => o = .rt (.bl true)) (O16 (en c rss ls e4 (.val (.lst (cutsD ls))) e6 e7 (.val (tabD c rss)) (.val (nI rss.length)) e10 e11 e12 e13 e14 e15 e16)) := by
  unfold O16
  refine T.all_bind.mpr (T.all_bind.mpr (T.all_mono (fun d hd => ?_) (ne_all (x := .lst (cutsD ls)) (r := true) (eL_all (lcallK2_all (all_eq (a := nw ls) rfl (all_eq (a := .int (c : Int)) rfl (T.all_mono (fun ds hd => ?_) (cu_all h.wd h.c3)))))) (var_all rfl) (eq_cuts ls))))
  · subst hd
    show T.all _ (eBin eqS (eCa bLen (aCons (eL (lCallF 2 saF (aCons (eVar 8) (aCons (eVar 3) aNil)))) aNil)) (eBin opAdd (eVar 9) (eC (.int 1))) (en c rss ls e4 (.val (.lst (cutsD ls))) e6 e7 (.val (tabD c rss)) (.val (nI rss.length)) e10 e11 e12 e13 e14 e15 e16))
    have e := eqS_int ((rss.length + 1 : Nat) : Int) ((rss.length + 1 : Nat) : Int)
    rw [decide_eq_true rfl] at e
    have lenA : (eCa bLen (aCons (eL (lCallF 2 saF (aCons (eVar 8) (aCons (eVar 3) aNil)))) aNil) (en c rss ls e4 (.val (.lst (cutsD ls))) e6 e7 (.val (tabD c rss)) (.val (nI rss.length)) e10 e11 e12 e13 e14 e15 e16)).all fun d => d = .int ((rss.length + 1 : Nat) : Int) := by
      refine T.all_bind.mpr (T.all_bind.mpr (eL_all (lcall2_all (all_eq (a := tabD c rss) rfl (all_eq (a := nw ls) rfl (T.all_mono (fun ds hd => ?_) (sa_all h)))))))
      subst hd
      show D.int ((fl (dpS (wS ls rss) ls.length) (rss.length + 1)).length : Int) = _
      rw [fl_len]
    refine T.all_mono (fun d hd => ?_) (ne_all (x := .int ((rss.length + 1 : Nat) : Int)) (r := true) lenA (all_eq (succ_val (n := rss.length) rfl) rfl) e)
    subst hd
    rfl
  · subst hd
    rfl
@[irreducible] def orF : List D → T D := f__law_one_right
theorem one_all (h : Okw c ls rss) (h5 : rss.length ≤ 5) : T.all (fun d => d = .bl true) (orF [.pot, .int (c : Int), .lst (rss.map rowP), nw ls]) := by
  unfold orF f__law_one_right runB
  rw [one_eq]
  refine T.all_bind.mpr ?_
  show T.all _ (bSeq O1 _ (en c rss ls .un .un .un .un .un .un .un .un .un .un .un .un .un))
  refine seq_nx (T.all_mono (fun o ho => ?_) (o1 h))
  subst ho
  refine ⟨_, rfl, seq_nx (T.all_mono (fun o ho => ?_) (o2 h h5))⟩
  subst ho
  refine ⟨_, rfl, seq_nx (T.all_mono (fun o ho => ?_) (o3 h))⟩
  subst ho
  refine ⟨_, rfl, seq_nx (T.all_mono (fun o ho => ?_) (o4 h))⟩
  subst ho
  refine ⟨_, rfl, seq_nx (T.all_mono (fun o ho => ?_) (o5 h h5))⟩
  subst ho
  refine ⟨_, rfl, seq_nx (T.all_mono (fun o ho => ?_) (o6 h h5))⟩
  subst ho
  have a10 := app_val (ρ := en c rss ls (.val (qR (WS ls rss))) .un .un .un (.val (tabD c rss)) (.val (nI rss.length)) (.own (aD ls rss)) (.val (.lst (bD ls rss))) .un .un .un .un .un) (i := 10) (ds := aD ls rss) (m := eC .non) (d := .non) rfl rfl (by unfold aD; rw [fl_len]; omega)
  refine ⟨_, rfl, seq_nx (all_eq a10 ⟨_, rfl, ?_⟩)⟩
  show T.all _ (bSeq O8 _ (en c rss ls (.val (qR (WS ls rss))) .un .un .un (.val (tabD c rss)) (.val (nI rss.length)) (.own (aD ls rss ++ [.non])) (.val (.lst (bD ls rss))) .un .un .un .un .un))
  refine seq_nx (T.all_mono (fun o ho => ?_) (o8 h))
  subst ho
  refine ⟨_, rfl, seq_nx (T.all_mono (fun o ho => ?_) (o9 h))⟩
  subst ho
  refine ⟨_, rfl, ?_⟩
  show T.all _ (bSeq O10 _ (en c rss ls (.val (qR (WS ls rss))) (.val (.lst (cutsD ls))) (.own (cutsD ls)) .un (.val (tabD c rss)) (.val (nI rss.length)) (.own (aD ls rss ++ [.non])) (.val (.lst (bD ls rss))) .un .un .un .un .un))
  refine seq_nx (T.all_mono (fun o ho => ?_) (o10 h))
  subst ho
  have cl : (cutsD ls).length ≤ 100000 := by have := h.h4; unfold cutsD; simp; omega
  have a6 := app_val (ρ := en c rss ls (.val (qR (WS ls rss))) (.val (.lst (cutsD ls))) (.own (cutsD ls)) .un (.val (tabD c rss)) (.val (nI rss.length)) (.own (aD ls rss ++ [.non])) (.val (.lst (bD ls rss))) .un .un .un .un .un) (i := 6) (ds := cutsD ls) (m := eC .non) (d := .non) rfl rfl cl
  refine ⟨_, rfl, seq_nx (all_eq a6 ⟨_, rfl, ?_⟩)⟩
  show T.all _ (bSeq O12 _ (en c rss ls (.val (qR (WS ls rss))) (.val (.lst (cutsD ls))) (.own (cutsD ls ++ [.non])) .un (.val (tabD c rss)) (.val (nI rss.length)) (.own (aD ls rss ++ [.non])) (.val (.lst (bD ls rss))) .un .un .un .un .un))
  refine seq_nx (T.all_mono (fun o ho => ?_) (o12 h))
  obtain ⟨qss, rfl, hl, g⟩ := ho
  have hq : Okw c ls qss := ⟨h.c3, h.h4, by omega, fun r hr => (g r hr).1, fun r hr => (g r hr).2, h.hp⟩
  refine ⟨_, rfl, seq_nx (T.all_mono (fun o ho => ?_) (o13 h.c3 hl g))⟩
  subst ho
  refine ⟨_, rfl, seq_nx (T.all_mono (fun o ho => ?_) (o14 h h5 hq hl))⟩
  obtain ⟨x, y, rfl⟩ := ho
  refine ⟨_, rfl, seq_nx (T.all_mono (fun o ho => ?_) (o15 h h5 hq hl))⟩
  subst ho
  refine ⟨_, rfl, T.all_mono (fun o ho => ?_) (o16 h)⟩
  subst ho
  rfl
end
end Pd

/-! The law comes out true, whatever is drawn. -/
namespace Pd
open PySem L2 PySem.Spec PyProof.Rows
@[irreducible] def woF : List D → T D := f__law_word
theorem wo_all {c n : Nat} (hc : c ≤ 3) (hn : n ≤ 100) : T.all (fun d => ∃ ls, d = nw ls ∧ ls.length = n ∧ ∀ l ∈ ls, LtOk c l) (woF [.pot, .int (c : Int), .int (n : Int)]) := by
  unfold woF
  exact word_all hc hn
@[irreducible] def R1 : Rho → T Out := sSet 1 (eCall 2 f__law_draw (aCons (eVar 0) (aCons (eC (.int 3)) aNil)))
@[irreducible] def R2 : Rho → T Out := sPar 2 3 (eCall 3 lrF (aCons (eVar 0) (aCons (eVar 1) (aCons (eCall 2 f__law_draw (aCons (eVar 0) (aCons (eC (.int 6)) aNil))) aNil)))) (eCall 3 woF (aCons (eVar 0) (aCons (eVar 1) (aCons (eCall 2 f__law_draw (aCons (eVar 0) (aCons (eC (.int 5)) aNil))) aNil))))
@[irreducible] def R3 : Rho → T Out := sIf (tNot' (eTest (eCall 4 orF (aCons (eVar 0) (aCons (eVar 1) (aCons (eVar 2) (aCons (eVar 3) aNil))))))) (sRet (eC (.bl false))) bNil
@[irreducible] def R4a : Rho → T D := eIf (eTest (eBin opNeF (eVar 2) (eL (lLst aNil)))) (eBin ixD (eVar 2) (eC (.int 0))) (eL (lRep (eL (lLst (aCons (eTup (aCons (eC (.int 2)) (aCons (eC (.int 1)) aNil))) aNil))) (eVar 1)))
@[irreducible] def R4 : Rho → T Out := sPar 4 5 (eL (lRep (eL (lLst (aCons R4a aNil))) (eC (.int 4)))) (eCall 2 f__law_draw (aCons (eVar 0) (aCons (eC (.int 4)) aNil)))
@[irreducible] def Rw (m : Rho → T D) : Rho → T D := eBin opMulT (eTup (aCons (eBin opMulT (eTup (aCons (eC (.int 0)) aNil)) (eVar 1)) aNil)) m
@[irreducible] def R5 : Rho → T Out := sIf (tNot' (eTest (eCall 4 orF (aCons (eVar 0) (aCons (eVar 1) (aCons (eVar 4) (aCons (Rw (eVar 5)) aNil))))))) (sRet (eC (.bl false))) bNil
@[irreducible] def R6 : Rho → T Out := sRet (eBin eqS (eCall 2 wuF (aCons (eCall 3 taF (aCons (eVar 0) (aCons (eVar 1) (aCons (eVar 4) aNil)))) (aCons (Rw (eC (.int 4))) aNil))) (eMake "Ratio" 1 [.int 1] f_Ratio_init (aCons (eC (.int 1)) aNil)))
theorem right_eq : m__law_right = bSeq R1 (bSeq R2 (bSeq R3 (bSeq R4 (bSeq R5 R6)))) := by
  unfold m__law_right R1 R2 R3 R4 R4a R5 R6 Rw eqS lrF woF orF wuF taF
  rfl
theorem call4_all {ρ : Rho} {a b c e : Rho → T D} {f : List D → T D} {P : D → Prop} (h : (a ρ).all fun x => (b ρ).all fun y => (c ρ).all fun z => (e ρ).all fun u => (f [x, y, z, u]).all P) : (eCall 4 f (aCons a (aCons b (aCons c (aCons e aNil)))) ρ).all P :=
  T.all_bind.mpr (T.all_bind.mpr (T.all_mono (fun x hx => T.all_bind.mpr (T.all_bind.mpr (T.all_mono (fun y hy => T.all_bind.mpr (T.all_bind.mpr (T.all_mono (fun z hz => T.all_bind.mpr (T.all_bind.mpr (T.all_mono (fun u hu => hu) hz))) hy))) hx))) h))
theorem bare_val {c : Nat} (hc : c ≤ 3) : opMulT (.tup [.int 0]) (.int (c : Int)) = .ret (nt (List.replicate c 0)) := by
  have : c = 0 ∨ c = 1 ∨ c = 2 ∨ c = 3 := by omega
  rcases this with rfl | rfl | rfl | rfl <;> rfl
theorem bares_val {l : List Nat} {m : Nat} (hm : m ≤ 4) : opMulT (.tup [nt l]) (.int (m : Int)) = .ret (nw (List.replicate m l)) := by
  have : m = 0 ∨ m = 1 ∨ m = 2 ∨ m = 3 ∨ m = 4 := by omega
  rcases this with rfl | rfl | rfl | rfl | rfl <;> rfl
theorem wt_bare : ∀ rs : List Rat, wt (List.replicate rs.length 0) rs = 1
  | [] => rfl
  | r :: rs => by
    show r ^ 0 * wt (List.replicate rs.length 0) rs = 1
    rw [wt_bare rs, Rat.pow_zero, Rat.mul_one]
theorem Rw_val {ρ : Rho} {c m : Nat} {e : Rho → T D} (hc : c ≤ 3) (hm : m ≤ 4) (h1 : ρ[1]? = some (.val (.int (c : Int)))) (he : e ρ = .ret (.int (m : Int))) : Rw e ρ = .ret (nw (List.replicate m (List.replicate c 0))) := by
  have s1 : ∀ x : D, small [x] = true := small1
  unfold Rw
  simp only [eBin, eTup, aCons, aNil, eC, eVar, h1, he, T.bind, s1, cond, bare_val hc, bares_val hm]
section
variable {c : Nat} {ls : List (List Nat)} {rss : List (List Rat)} {r0 : List Rat} {x1 x2 x3 x4 x5 : Ent}
theorem py_rows (rss : List (List Rat)) : PyOk 3 (.lst (rss.map rowP)) := py_lst fun d hd => by
  obtain ⟨rs, _, rfl⟩ := List.mem_map.mp hd
  exact py_lst fun d hd => by
    obtain ⟨q, _, rfl⟩ := List.mem_map.mp hd
    exact py_tup fun d hd => by
      rcases List.mem_cons.mp hd with rfl | hd
      · exact py_int _
      · rw [List.mem_singleton.mp hd]
        exact py_int _
theorem rep_row : ∀ (n : Nat), rep n [qP 2] = (List.replicate n (2 : Rat)).map qP
  | 0 => rfl
  | n + 1 => by
    show qP 2 :: rep n [qP 2] = qP 2 :: (List.replicate n (2 : Rat)).map qP
    rw [rep_row n]
theorem sz_two : Sz 2 (2 : Rat) := ⟨by decide, by decide⟩
theorem qP_two : qP (2 : Rat) = .tup [.int 2, .int 1] := by
  have := qP_int 2
  have c : ((2 : Int) : Rat) = 2 := by simp
  rw [c] at this
  exact this
theorem ix_first (x : D) (xs : List D) : ixD (.lst (x :: xs)) (.int 0) = .ret x := by
  show ixL (x :: xs) (.int 0) = _
  unfold ixL
  dsimp only
  have e : atI (x :: xs) 0 = some x := by
    unfold atI ixN
    rw [List.length_cons, if_pos (by omega), if_pos (by omega)]
    rfl
  rw [e]
theorem r4a (hc : c ≤ 3) (g : RowsOk c rss) : T.all (fun d => ∃ r0 : List Rat, d = rowP r0 ∧ r0.length = c ∧ ∀ r ∈ r0, Sz 2 r) (R4a [.val .pot, .val (.int (c : Int)), .val (.lst (rss.map rowP)), x3, x4, x5]) := by
  have e0 : eL (lLst aNil) [.val .pot, .val (.int (c : Int)), .val (.lst (rss.map rowP)), x3, x4, x5] = .ret (.lst []) := rfl
  have nn := ne_nil (py_rows rss) (by decide)
  have t : eTest (eBin opNeF (eVar 2) (eL (lLst aNil))) [.val .pot, .val (.int (c : Int)), .val (.lst (rss.map rowP)), x3, x4, x5] = .ret (!(rss.map rowP).isEmpty) := by
    simp only [eTest, eBin, e0, eVar, List.getElem?_cons_succ, List.getElem?_cons_zero, T.bind, nn, asB]
  unfold R4a
  refine T.all_bind.mpr (all_eq t ?_)
  cases rss with
  | nil =>
    have s1 : ∀ x : D, small [x] = true := small1
    have s2 : ∀ x y : D, small [x, y] = true := fun x y => small_of (by simp)
    have e1 : eL (lLst (aCons (eTup (aCons (eC (.int 2)) (aCons (eC (.int 1)) aNil))) aNil)) [.val .pot, .val (.int (c : Int)), .val (.lst []), x3, x4, x5] = .ret (.lst [qP 2]) := by
      rw [qP_two]
      simp only [eL, lLst, eTup, aCons, aNil, eC, T.bind, s1, s2, cond]
    have b : (decide (0 ≤ (c : Int)) && decide ((c : Int) ≤ 1000) && decide ([qP 2].length ≤ 100)) = true := by
      rw [decide_eq_true (show 0 ≤ (c : Int) by omega), decide_eq_true (show (c : Int) ≤ 1000 by omega)]
      rfl
    have e2 : eL (lRep (eL (lLst (aCons (eTup (aCons (eC (.int 2)) (aCons (eC (.int 1)) aNil))) aNil))) (eVar 1)) [.val .pot, .val (.int (c : Int)), .val (.lst []), x3, x4, x5] = .ret (rowP (List.replicate c 2)) := by
      unfold eL lRep
      show ((eL (lLst (aCons (eTup (aCons (eC (.int 2)) (aCons (eC (.int 1)) aNil))) aNil)) [.val .pot, .val (.int (c : Int)), .val (.lst []), x3, x4, x5]).bind _).bind _ = _
      rw [e1]
      show ((cond (decide (0 ≤ (c : Int)) && decide ((c : Int) ≤ 1000) && decide ([qP 2].length ≤ 100)) (T.ret (rep (c : Int).toNat [qP 2])) T.fail).bind fun ds => T.ret (D.lst ds)) = _
      rw [b, Int.toNat_natCast, rep_row]
      rfl
    refine all_eq e2 ⟨List.replicate c 2, rfl, by simp, fun r hr => ?_⟩
    rw [List.eq_of_mem_replicate hr]
    exact sz_two
  | cons r rs =>
    have z := g r List.mem_cons_self
    show T.all _ (eBin ixD (eVar 2) (eC (.int 0)) [.val .pot, .val (.int (c : Int)), .val (.lst (rowP r :: rs.map rowP)), x3, x4, x5])
    exact all_eq (a := rowP r) (ix_first _ _) ⟨r, rfl, z.1, z.2⟩
theorem four_rows (r0 : List Rat) : rep 4 [rowP r0] = (List.replicate 4 r0).map rowP := rfl
theorem r4 (hc : c ≤ 3) (g : RowsOk c rss) : T.all (fun o => ∃ (r0 : List Rat) (m : Nat), o = .nx [.val .pot, .val (.int (c : Int)), .val (.lst (rss.map rowP)), x3, .val (.lst ((List.replicate 4 r0).map rowP)), .val (.int (m : Int))] ∧ m ≤ 3 ∧ r0.length = c ∧ ∀ r ∈ r0, Sz 2 r) (R4 [.val .pot, .val (.int (c : Int)), .val (.lst (rss.map rowP)), x3, x4, x5]) := by
  have s1 : ∀ x : D, small [x] = true := small1
  unfold R4
  refine par_all (eL_all (T.all_bind.mpr (eL_all (T.all_bind.mpr (T.all_bind.mpr (T.all_mono (fun d hd => ?_) (r4a hc g)))))))
  obtain ⟨r0, rfl, hl, hr⟩ := hd
  show T.all _ (cond (small [rowP r0]) (T.ret [rowP r0]) T.fail)
  refine all_eq (a := [rowP r0]) (by rw [s1]; rfl) (all_eq (a := [rowP r0]) (by rw [s1]; rfl) ?_)
  refine all_eq (a := (List.replicate 4 r0).map rowP) (by rw [← four_rows]; rfl) ?_
  refine all_dr (drawE (n := 4) rfl rfl (by decide) (by decide)) fun m hm => ?_
  exact ⟨r0, m, rfl, by omega, hl, hr⟩
theorem alike_ok {m : Nat} (hc : c ≤ 3) (hm : m ≤ 4) (hl : r0.length = c) (hr : ∀ r ∈ r0, Sz 2 r) : Okw c (List.replicate m (List.replicate c 0)) (List.replicate 4 r0) where
  c3 := hc
  h4 := by rw [List.length_replicate]; exact hm
  h8 := by rw [List.length_replicate]; decide
  hc rs h := by rw [List.eq_of_mem_replicate h]; exact hl
  hr rs h := by rw [List.eq_of_mem_replicate h]; exact hr
  hp l h := by
    rw [List.eq_of_mem_replicate h]
    exact ⟨List.length_replicate, fun p hp => by rw [List.eq_of_mem_replicate hp]; decide⟩
theorem dp_ones : dpS (fun _ _ => 1) 4 4 = 1 := by decide +kernel
theorem alike_one (hl : r0.length = c) : WS (List.replicate 4 (List.replicate c 0)) (List.replicate 4 r0) = 1 := by
  unfold WS
  rw [List.length_replicate, List.length_replicate, ← dp_ones]
  refine dp_congr (fun k a hk ha => ?_) 4 4 (Nat.le_refl _) (Nat.le_refl _)
  have e1 : (List.replicate 4 (List.replicate c 0)).getD k [] = List.replicate c 0 := by
    rw [List.getD_eq_getElem?_getD, List.getElem?_replicate, if_pos hk]
    rfl
  have e2 : (List.replicate 4 r0).getD a [] = r0 := by
    rw [List.getD_eq_getElem?_getD, List.getElem?_replicate, if_pos ha]
    rfl
  unfold wS
  rw [e1, e2, ← hl, wt_bare]
theorem r1 : T.all (fun o => ∃ c : Nat, o = .nx [.val .pot, .val (.int (c : Int)), x2, x3, x4, x5] ∧ c ≤ 2) (R1 [.val .pot, x1, x2, x3, x4, x5]) := by
  unfold R1
  refine set_all (all_dr (drawE (n := 3) rfl rfl (by decide) (by decide)) fun i hi => ?_)
  exact ⟨i, rfl, by omega⟩
theorem r2 (hc : c ≤ 3) : T.all (fun o => ∃ (rss : List (List Rat)) (ls : List (List Nat)), o = .nx [.val .pot, .val (.int (c : Int)), .val (.lst (rss.map rowP)), .val (nw ls), x4, x5] ∧ rss.length ≤ 5 ∧ RowsOk c rss ∧ ls.length ≤ 4 ∧ ∀ l ∈ ls, LtOk c l) (R2 [.val .pot, .val (.int (c : Int)), x2, x3, x4, x5]) := by
  unfold R2
  refine par_all (call3_all (all_eq (a := .pot) rfl (all_eq (a := .int (c : Int)) rfl (all_dr (drawE (n := 6) rfl rfl (by decide) (by decide)) fun i hi => all_eq (a := .int (i : Int)) rfl (T.all_mono (fun d hd => ?_) (lr_all (n := i) hc (by omega)))))))
  obtain ⟨rss, rfl, hl, g⟩ := hd
  refine call3_all (all_eq (a := .pot) rfl (all_eq (a := .int (c : Int)) rfl (all_dr (drawE (n := 5) rfl rfl (by decide) (by decide)) fun j hj => all_eq (a := .int (j : Int)) rfl (T.all_mono (fun d hd => ?_) (wo_all (n := j) hc (by omega))))))
  obtain ⟨ls, rfl, hl2, g2⟩ := hd
  exact ⟨rss, ls, rfl, by omega, g, by omega, g2⟩
theorem r3 (h : Okw c ls rss) (h5 : rss.length ≤ 5) : T.all (fun o => o = .nx [.val .pot, .val (.int (c : Int)), .val (.lst (rss.map rowP)), .val (nw ls), x4, x5]) (R3 [.val .pot, .val (.int (c : Int)), .val (.lst (rss.map rowP)), .val (nw ls), x4, x5]) := by
  unfold R3
  refine if_no (not_all (b := true) (test_all (call4_all (all_eq (a := .pot) rfl (all_eq (a := .int (c : Int)) rfl (all_eq (a := .lst (rss.map rowP)) rfl (all_eq (a := nw ls) rfl (one_all h h5)))))))) ?_
  rfl
theorem r5 {m : Nat} (hc : c ≤ 3) (hm : m ≤ 3) (hl : r0.length = c) (hr : ∀ r ∈ r0, Sz 2 r) : T.all (fun o => o = .nx [.val .pot, .val (.int (c : Int)), x2, x3, .val (.lst ((List.replicate 4 r0).map rowP)), .val (.int (m : Int))]) (R5 [.val .pot, .val (.int (c : Int)), x2, x3, .val (.lst ((List.replicate 4 r0).map rowP)), .val (.int (m : Int))]) := by
  have w := Rw_val (ρ := [.val .pot, .val (.int (c : Int)), x2, x3, .val (.lst ((List.replicate 4 r0).map rowP)), .val (.int (m : Int))]) (e := eVar 5) (m := m) hc (by omega) rfl rfl
  unfold R5
  refine if_no (not_all (b := true) (test_all (call4_all (all_eq (a := .pot) rfl (all_eq (a := .int (c : Int)) rfl (all_eq (a := .lst ((List.replicate 4 r0).map rowP)) rfl (all_eq w (one_all (alike_ok hc (by omega) hl hr) (by simp))))))))) ?_
  rfl
theorem r6 (hc : c ≤ 3) (hl : r0.length = c) (hr : ∀ r ∈ r0, Sz 2 r) : T.all (fun o => o = .rt (.bl true)) (R6 [.val .pot, .val (.int (c : Int)), x2, x3, .val (.lst ((List.replicate 4 r0).map rowP)), x5]) := by
  have w := Rw_val (ρ := [.val .pot, .val (.int (c : Int)), x2, x3, .val (.lst ((List.replicate 4 r0).map rowP)), x5]) (e := eC (.int 4)) (m := 4) hc (by omega) rfl rfl
  have ok := alike_ok (m := 4) hc (by omega) hl hr
  have wu := wu_all ok
  rw [alike_one hl] at wu
  unfold R6
  refine T.all_bind.mpr (T.all_mono (fun d hd => ?_) (ne_all (x := qR 1) (r := true) (call2_all (call3_all (all_eq (a := .pot) rfl (all_eq (a := .int (c : Int)) rfl (all_eq (a := .lst ((List.replicate 4 r0).map rowP)) rfl (T.all_mono (fun d hd => ?_) (ta_all hc (by simp) ok.ro))))))) (all_eq make1_val (by rw [one_cast])) (eq_q 1)))
  · subst hd
    rfl
  · subst hd
    exact all_eq w wu
end
theorem right_all : T.all (fun d => d = .bl true) (f__law_right [.pot]) := by
  unfold f__law_right runB
  rw [right_eq]
  refine T.all_bind.mpr ?_
  refine seq_nx (T.all_mono (fun o ho => ?_) r1)
  obtain ⟨c, rfl, hc⟩ := ho
  refine ⟨_, rfl, seq_nx (T.all_mono (fun o ho => ?_) (r2 (by omega)))⟩
  obtain ⟨rss, ls, rfl, h5, g, h4, g4⟩ := ho
  have h : Okw c ls rss := ⟨by omega, h4, by omega, fun r hr => (g r hr).1, fun r hr => (g r hr).2, g4⟩
  refine ⟨_, rfl, seq_nx (T.all_mono (fun o ho => ?_) (r3 h h5))⟩
  subst ho
  refine ⟨_, rfl, seq_nx (T.all_mono (fun o ho => ?_) (r4 (by omega) g))⟩
  obtain ⟨r0, m, rfl, hm, hl, hr⟩ := ho
  refine ⟨_, rfl, seq_nx (T.all_mono (fun o ho => ?_) (r5 (by omega) hm hl hr))⟩
  subst ho
  refine ⟨_, rfl, T.all_mono (fun o ho => ?_) (r6 (by omega) hl hr)⟩
  subst ho
  rfl
end Pd

/-! What the top has left; the last theorem. -/
namespace Pd
open PySem L2 PySem.Spec PyProof.Rows
theorem kit_ref {K : PySem.W.Frag} {C : Addr} {T : String} {b : Bool} (h : PySem.W.subIn K (.ref C) (.type T) = some b) (m : PySem.W.kitMeta T = true) : PySem.W.kitOne K (.ref C) (.type T) = some b := by
  unfold PySem.W.kitOne
  rw [if_neg (by intro z; cases z)]
  show (if PySem.W.kitMeta T = true then _ else _) = _
  rw [if_pos m]
  exact h
theorem kit_of {K : PySem.W.Frag} {C : Addr} {T : String} {b : Bool} (h : PySem.W.subIn K (.type T) (.ref C) = some b) (c : PySem.W.isClsIn K C = true) (t : PySem.W.typeIn K (.ref C) = some (.type "type")) : PySem.W.kitOne K (.type T) (.ref C) = some b := by
  unfold PySem.W.kitOne
  rw [if_neg (by intro z; cases z)]
  show (if ((PySem.W.clsIn K C).isSome && PySem.W.typeIn K (.ref C) == some (.type "type")) = true then _ else _) = _
  rw [if_pos (by rw [t]; exact (Bool.and_eq_true _ _).mpr ⟨c, by decide +kernel⟩)]
  exact h
theorem kit_rr {K : PySem.W.Frag} {C D : Addr} {b : Bool} (ne : C ≠ D) (h : PySem.W.subIn K (.ref C) (.ref D) = some b) (c : PySem.W.isClsIn K D = true) (t : PySem.W.typeIn K (.ref D) = some (.type "type")) : PySem.W.kitOne K (.ref C) (.ref D) = some b := by
  unfold PySem.W.kitOne
  rw [if_neg (by simp [ne])]
  show (if ((PySem.W.clsIn K D).isSome && PySem.W.typeIn K (.ref D) == some (.type "type")) = true then _ else _) = _
  rw [if_pos (by rw [t]; exact (Bool.and_eq_true _ _).mpr ⟨c, by decide +kernel⟩)]
  exact h
theorem fail_ok {P : Program} {w : World} {K : PySem.W.Frag} {mg : Str → Option Value} {base : Heap} {k n : Nat} {f : Addr} {fd : FuncData} {ps : List Str} : FnOk P w K mg base CX0 k f fd ps (spD K P w n fun _ => .fail) :=
  ⟨fun _ _ _ _ ⟨_, _, _, _, _, _, h⟩ => h.elim, fun _ _ _ _ _ _ _ _ _ _ _ _ _ ⟨_, _, _, _, _, _, h⟩ => h.elim⟩
def spL (K : PySem.W.Frag) : Sp := fun vs H Q _ => ∃ (a : Addr) (ns : List Int), vs = [.ref a] ∧ SqL K H a (ns.map V.int) ∧ ∀ H', Q (.bl true) H'
abbrev s_law : Stmt := topR 72
theorem sc_law : FnScope ["_law_script"] ["_law_script"] (defScope s_law) := ⟨rfl, rfl, rfl, by decide +kernel, rfl, by decide +kernel, by decide +kernel⟩
section
variable {P : Program} {w : World} {K : PySem.W.Frag} {mg : Str → Option Value} {base : Heap} {a_f : Addr} {d_f : FuncData}
theorem g_Radd' {ft : List D → T D} {C a_i a_t : Addr} {d_i d_t : FuncData} (F : Fun K "__add__" "Ratio.__add__" s_Radd a_f d_f) (R : RH P w K mg base ft C a_i a_t d_i d_t) : FnOk P w K mg base CX0 5 a_f d_f ["self", "other"] (spD K P w 2 (f_Radd' ft)) := by
  have nd := sc_Radd.nd
  refine fn_ok (n := 4) (p := 2) (m := m_Rsum opAdd ft) (k := 4) F sc_Radd rfl rfl rfl (fun cdv A outer s H E hr => ?_)
  exact b_cons (ss_asg (s_call R.GT (hr.mono (by decide)) R.mt R.kt R.BT (sa_cons (sv 1) sa_nil)) (g_tup rfl (gs_cons (g_name nd) (gs_cons (g_name nd) gs_nil))))
    (b_one (ss_ret (s_make (dvs := []) (dds := []) R.M R.GI (hr.mono (by decide)) R.mC R.at_ R.BI .nil (fun _ _ => .nil) (sa_cons (s_bin os_add (s_bin os_mulG (s_attr R.at_ R.cl R.nt (sv 0)) (sv 3)) (s_bin os_mulG (sv 2) (s_attr R.at_ R.cl R.nb (sv 0)))) (sa_cons (s_bin os_mulG (s_attr R.at_ R.cl R.nb (sv 0)) (sv 3)) sa_nil)))))
theorem g_law {a_pot a_right a_law : Addr} {d_pot d_right d_law : FuncData} (F : Fun K "law" "law" s_law a_law d_law) (mp : mg "_law_pot" = some (.ref a_pot)) (kp : PySem.W.keepIn K (.ref a_pot) = true) (mr : mg "_law_right" = some (.ref a_right)) (kr : PySem.W.keepIn K (.ref a_right) = true)
    (GP : FnOk P w K mg base CX0 1 a_pot d_pot ["_law_script", "_law_k"] (spPot K)) (BP : Binds K d_pot ["_law_script", "_law_k"] []) (GR : FnOk P w K mg base CX0 12 a_right d_right ["_law_pot_here"] (spD K P w 1 f__law_right)) (BR : Binds K d_right ["_law_pot_here"] []) :
    FnG P w K mg base CX0 13 a_law d_law ["_law_script"] (spL K) := by
  refine okG (k := 12) F sc_law (fun vs H Q E h => ?_) (fun cdv A outer s H vs Q E hr hgd h => ⟨_, pss_one (ps_ret (pe_call GR (hr.mono (by decide)) rfl mr kr BR .nil pass0 (pa_cons (pe_call GP (hr.mono (by decide)) rfl mp kp BP .nil pass0 (pa_cons (pv 0) (pa_cons pe_int pa_nil))) pa_nil))), ?_⟩)
  · obtain ⟨a, ns, rfl, _⟩ := h
    rfl
  · obtain ⟨a, ns, rfl, hs, q⟩ := h
    refine ⟨_, rfl, a, ns, 0, rfl, by decide, hs, fun p x y hp x0 y0 y1 => ?_⟩
    refine ⟨p, fun _ => false, [.pot], ⟨⟨x, y, upd_same, x0, y0, y1⟩, rfl, fun a h => nomatch h⟩, .cons .pot .nil, rfl, T.all_mono (fun d hd v H2 e r => ?_) right_all⟩
    subst hd
    rw [r.bool]
    exact q H2
end

theorem all_mk {l : PySem.W.OpenLaw} {w : World} {K : PySem.W.Frag} {h : Heap} {mg : Str → Option Value} {fa : Addr} (X : K.In h) (G : h.Ns mainGlobals mg) (hfa : mg "law" = some (.ref fa))
    {C : Addr}
    {f_is_count : Addr} {od_is_count an_is_count : Option Addr} {sl_is_count : Array (Option Value)} {oc_is_count kV_is_count dc_is_count pm_is_count cd_is_count ct_is_count : Value}
    {f_is_count_to : Addr} {od_is_count_to an_is_count_to : Option Addr} {sl_is_count_to : Array (Option Value)} {oc_is_count_to kV_is_count_to dc_is_count_to pm_is_count_to cd_is_count_to ct_is_count_to : Value}
    {f_is_list : Addr} {od_is_list an_is_list : Option Addr} {sl_is_list : Array (Option Value)} {oc_is_list kV_is_list dc_is_list pm_is_list cd_is_list ct_is_list : Value}
    {f_need_columns : Addr} {od_need_columns an_need_columns : Option Addr} {sl_need_columns : Array (Option Value)} {oc_need_columns kV_need_columns dc_need_columns pm_need_columns cd_need_columns ct_need_columns : Value}
    {f_need_like_columns : Addr} {od_need_like_columns an_need_like_columns : Option Addr} {sl_need_like_columns : Array (Option Value)} {oc_need_like_columns kV_need_like_columns dc_need_like_columns pm_need_like_columns cd_need_like_columns ct_need_like_columns : Value}
    {f_as_ratio : Addr} {od_as_ratio an_as_ratio : Option Addr} {sl_as_ratio : Array (Option Value)} {oc_as_ratio kV_as_ratio dc_as_ratio pm_as_ratio cd_as_ratio ct_as_ratio : Value}
    {f_are_numbers : Addr} {od_are_numbers an_are_numbers : Option Addr} {sl_are_numbers : Array (Option Value)} {oc_are_numbers kV_are_numbers dc_are_numbers pm_are_numbers cd_are_numbers ct_are_numbers : Value}
    {f_are_rows : Addr} {od_are_rows an_are_rows : Option Addr} {sl_are_rows : Array (Option Value)} {oc_are_rows kV_are_rows dc_are_rows pm_are_rows cd_are_rows ct_are_rows : Value}
    {f_need_table : Addr} {od_need_table an_need_table : Option Addr} {sl_need_table : Array (Option Value)} {oc_need_table kV_need_table dc_need_table pm_need_table cd_need_table ct_need_table : Value}
    {f_need_place_for_rows : Addr} {od_need_place_for_rows an_need_place_for_rows : Option Addr} {sl_need_place_for_rows : Array (Option Value)} {oc_need_place_for_rows kV_need_place_for_rows dc_need_place_for_rows pm_need_place_for_rows cd_need_place_for_rows ct_need_place_for_rows : Value}
    {f_joined : Addr} {od_joined an_joined : Option Addr} {sl_joined : Array (Option Value)} {oc_joined kV_joined dc_joined pm_joined cd_joined ct_joined : Value}
    {f_turned : Addr} {od_turned an_turned : Option Addr} {sl_turned : Array (Option Value)} {oc_turned kV_turned dc_turned pm_turned cd_turned ct_turned : Value}
    {f_is_letter_to : Addr} {od_is_letter_to an_is_letter_to : Option Addr} {sl_is_letter_to : Array (Option Value)} {oc_is_letter_to kV_is_letter_to dc_is_letter_to pm_is_letter_to cd_is_letter_to ct_is_letter_to : Value}
    {f_is_word_to : Addr} {od_is_word_to an_is_word_to : Option Addr} {sl_is_word_to : Array (Option Value)} {oc_is_word_to kV_is_word_to dc_is_word_to pm_is_word_to cd_is_word_to ct_is_word_to : Value}
    {f_is_word : Addr} {od_is_word an_is_word : Option Addr} {sl_is_word : Array (Option Value)} {oc_is_word kV_is_word dc_is_word pm_is_word cd_is_word ct_is_word : Value}
    {f_need_word : Addr} {od_need_word an_need_word : Option Addr} {sl_need_word : Array (Option Value)} {oc_need_word kV_need_word dc_need_word pm_need_word cd_need_word ct_need_word : Value}
    {f_worth_at : Addr} {od_worth_at an_worth_at : Option Addr} {sl_worth_at : Array (Option Value)} {oc_worth_at kV_worth_at dc_worth_at pm_worth_at cd_worth_at ct_worth_at : Value}
    {f_longer_sums : Addr} {od_longer_sums an_longer_sums : Option Addr} {sl_longer_sums : Array (Option Value)} {oc_longer_sums kV_longer_sums dc_longer_sums pm_longer_sums cd_longer_sums ct_longer_sums : Value}
    {f_sums_of : Addr} {od_sums_of an_sums_of : Option Addr} {sl_sums_of : Array (Option Value)} {oc_sums_of kV_sums_of dc_sums_of pm_sums_of cd_sums_of ct_sums_of : Value}
    {f_worths_at : Addr} {od_worths_at an_worths_at : Option Addr} {sl_worths_at : Array (Option Value)} {oc_worths_at kV_worths_at dc_worths_at pm_worths_at cd_worths_at ct_worths_at : Value}
    {f_sums_ahead : Addr} {od_sums_ahead an_sums_ahead : Option Addr} {sl_sums_ahead : Array (Option Value)} {oc_sums_ahead kV_sums_ahead dc_sums_ahead pm_sums_ahead cd_sums_ahead ct_sums_ahead : Value}
    {f_word_sum : Addr} {od_word_sum an_word_sum : Option Addr} {sl_word_sum : Array (Option Value)} {oc_word_sum kV_word_sum dc_word_sum pm_word_sum cd_word_sum ct_word_sum : Value}
    {f_sums_behind : Addr} {od_sums_behind an_sums_behind : Option Addr} {sl_sums_behind : Array (Option Value)} {oc_sums_behind kV_sums_behind dc_sums_behind pm_sums_behind cd_sums_behind ct_sums_behind : Value}
    {f_cuts : Addr} {od_cuts an_cuts : Option Addr} {sl_cuts : Array (Option Value)} {oc_cuts kV_cuts dc_cuts pm_cuts cd_cuts ct_cuts : Value}
    {f_turned_word : Addr} {od_turned_word an_turned_word : Option Addr} {sl_turned_word : Array (Option Value)} {oc_turned_word kV_turned_word dc_turned_word pm_turned_word cd_turned_word ct_turned_word : Value}
    {f_Ldivisor : Addr} {od_Ldivisor an_Ldivisor : Option Addr} {sl_Ldivisor : Array (Option Value)} {oc_Ldivisor kV_Ldivisor dc_Ldivisor pm_Ldivisor cd_Ldivisor ct_Ldivisor : Value}
    {f_Llow : Addr} {od_Llow an_Llow : Option Addr} {sl_Llow : Array (Option Value)} {oc_Llow kV_Llow dc_Llow pm_Llow cd_Llow ct_Llow : Value}
    {f_Lplus : Addr} {od_Lplus an_Lplus : Option Addr} {sl_Lplus : Array (Option Value)} {oc_Lplus kV_Lplus dc_Lplus pm_Lplus cd_Lplus ct_Lplus : Value}
    {f_Ltimes : Addr} {od_Ltimes an_Ltimes : Option Addr} {sl_Ltimes : Array (Option Value)} {oc_Ltimes kV_Ltimes dc_Ltimes pm_Ltimes cd_Ltimes ct_Ltimes : Value}
    {f_Lratio : Addr} {od_Lratio an_Lratio : Option Addr} {sl_Lratio : Array (Option Value)} {oc_Lratio kV_Lratio dc_Lratio pm_Lratio cd_Lratio ct_Lratio : Value}
    {f_Lnumber : Addr} {od_Lnumber an_Lnumber : Option Addr} {sl_Lnumber : Array (Option Value)} {oc_Lnumber kV_Lnumber dc_Lnumber pm_Lnumber cd_Lnumber ct_Lnumber : Value}
    {f_Lrows : Addr} {od_Lrows an_Lrows : Option Addr} {sl_Lrows : Array (Option Value)} {oc_Lrows kV_Lrows dc_Lrows pm_Lrows cd_Lrows ct_Lrows : Value}
    {f_Lpassed : Addr} {od_Lpassed an_Lpassed : Option Addr} {sl_Lpassed : Array (Option Value)} {oc_Lpassed kV_Lpassed dc_Lpassed pm_Lpassed cd_Lpassed ct_Lpassed : Value}
    {f_Ltable : Addr} {od_Ltable an_Ltable : Option Addr} {sl_Ltable : Array (Option Value)} {oc_Ltable kV_Ltable dc_Ltable pm_Ltable cd_Ltable ct_Ltable : Value}
    {f_Lletter : Addr} {od_Lletter an_Lletter : Option Addr} {sl_Lletter : Array (Option Value)} {oc_Lletter kV_Lletter dc_Lletter pm_Lletter cd_Lletter ct_Lletter : Value}
    {f_Lword : Addr} {od_Lword an_Lword : Option Addr} {sl_Lword : Array (Option Value)} {oc_Lword kV_Lword dc_Lword pm_Lword cd_Lword ct_Lword : Value}
    {f_Lworth : Addr} {od_Lworth an_Lworth : Option Addr} {sl_Lworth : Array (Option Value)} {oc_Lworth kV_Lworth dc_Lworth pm_Lworth cd_Lworth ct_Lworth : Value}
    {f_Lchoices : Addr} {od_Lchoices an_Lchoices : Option Addr} {sl_Lchoices : Array (Option Value)} {oc_Lchoices kV_Lchoices dc_Lchoices pm_Lchoices cd_Lchoices ct_Lchoices : Value}
    {f_Lsum : Addr} {od_Lsum an_Lsum : Option Addr} {sl_Lsum : Array (Option Value)} {oc_Lsum kV_Lsum dc_Lsum pm_Lsum cd_Lsum ct_Lsum : Value}
    {f_Lone_right : Addr} {od_Lone_right an_Lone_right : Option Addr} {sl_Lone_right : Array (Option Value)} {oc_Lone_right kV_Lone_right dc_Lone_right pm_Lone_right cd_Lone_right ct_Lone_right : Value}
    {f_Lright : Addr} {od_Lright an_Lright : Option Addr} {sl_Lright : Array (Option Value)} {oc_Lright kV_Lright dc_Lright pm_Lright cd_Lright ct_Lright : Value}
    {f_Ldraw : Addr} {od_Ldraw an_Ldraw : Option Addr} {sl_Ldraw : Array (Option Value)} {oc_Ldraw kV_Ldraw dc_Ldraw pm_Ldraw cd_Ldraw ct_Ldraw : Value}
    {f_Lpot : Addr} {od_Lpot an_Lpot : Option Addr} {sl_Lpot : Array (Option Value)} {oc_Lpot kV_Lpot dc_Lpot pm_Lpot cd_Lpot ct_Lpot : Value}
    {f_isInt : Addr} {od_isInt an_isInt : Option Addr} {sl_isInt : Array (Option Value)} {oc_isInt kV_isInt dc_isInt pm_isInt cd_isInt ct_isInt : Value}
    {f_isNum : Addr} {od_isNum an_isNum : Option Addr} {sl_isNum : Array (Option Value)} {oc_isNum kV_isNum dc_isNum pm_isNum cd_isNum ct_isNum : Value}
    {f_need : Addr} {od_need an_need : Option Addr} {sl_need : Array (Option Value)} {oc_need kV_need dc_need pm_need cd_need ct_need : Value}
    {f_tb : Addr} {od_tb an_tb : Option Addr} {sl_tb : Array (Option Value)} {oc_tb kV_tb dc_tb pm_tb cd_tb ct_tb : Value}
    {f_law : Addr} {od_law an_law : Option Addr} {sl_law : Array (Option Value)} {oc_law kV_law dc_law pm_law cd_law ct_law : Value}
    {T1 : Addr} {ocT : Value} {odT : Option Addr} {tk1 : Tok} {nT : Nat} {slT : Array (Option Value)}
    {f_Rinit : Addr} {od_Rinit an_Rinit : Option Addr} {sl_Rinit : Array (Option Value)} {oc_Rinit kV_Rinit dc_Rinit pm_Rinit cd_Rinit ct_Rinit : Value}
    {p_Rtop : Addr} {r_Rtop : List Value}
    {f_Rtop : Addr} {od_Rtop an_Rtop : Option Addr} {sl_Rtop : Array (Option Value)} {oc_Rtop kV_Rtop dc_Rtop pm_Rtop cd_Rtop ct_Rtop : Value}
    {p_Rbottom : Addr} {r_Rbottom : List Value}
    {f_Rbottom : Addr} {od_Rbottom an_Rbottom : Option Addr} {sl_Rbottom : Array (Option Value)} {oc_Rbottom kV_Rbottom dc_Rbottom pm_Rbottom cd_Rbottom ct_Rbottom : Value}
    {f_Radd : Addr} {od_Radd an_Radd : Option Addr} {sl_Radd : Array (Option Value)} {oc_Radd kV_Radd dc_Radd pm_Radd cd_Radd ct_Radd : Value}
    {f_Rradd : Addr} {od_Rradd an_Rradd : Option Addr} {sl_Rradd : Array (Option Value)} {oc_Rradd kV_Rradd dc_Rradd pm_Rradd cd_Rradd ct_Rradd : Value}
    {f_Rmul : Addr} {od_Rmul an_Rmul : Option Addr} {sl_Rmul : Array (Option Value)} {oc_Rmul kV_Rmul dc_Rmul pm_Rmul cd_Rmul ct_Rmul : Value}
    {f_Rrmul : Addr} {od_Rrmul an_Rrmul : Option Addr} {sl_Rrmul : Array (Option Value)} {oc_Rrmul kV_Rrmul dc_Rrmul pm_Rrmul cd_Rrmul ct_Rrmul : Value}
    {f_Req : Addr} {od_Req an_Req : Option Addr} {sl_Req : Array (Option Value)} {oc_Req kV_Req dc_Req pm_Req cd_Req ct_Req : Value}
    {f_Rrepr : Addr} {od_Rrepr an_Rrepr : Option Addr} {sl_Rrepr : Array (Option Value)} {oc_Rrepr kV_Rrepr dc_Rrepr pm_Rrepr cd_Rrepr ct_Rrepr : Value}
    {vo_add vr_add : Value}
    {vo_mul vr_mul : Value}
    {CTable : Addr}
    {f_Table_init : Addr} {od_Table_init an_Table_init : Option Addr} {sl_Table_init : Array (Option Value)} {oc_Table_init kV_Table_init dc_Table_init pm_Table_init cd_Table_init ct_Table_init : Value}
    {p_Table_columns : Addr} {r_Table_columns : List Value}
    {f_Table_columns : Addr} {od_Table_columns an_Table_columns : Option Addr} {sl_Table_columns : Array (Option Value)} {oc_Table_columns kV_Table_columns dc_Table_columns pm_Table_columns cd_Table_columns ct_Table_columns : Value}
    {p_Table_height : Addr} {r_Table_height : List Value}
    {f_Table_height : Addr} {od_Table_height an_Table_height : Option Addr} {sl_Table_height : Array (Option Value)} {oc_Table_height kV_Table_height dc_Table_height pm_Table_height cd_Table_height ct_Table_height : Value}
    {f_Table_rows : Addr} {od_Table_rows an_Table_rows : Option Addr} {sl_Table_rows : Array (Option Value)} {oc_Table_rows kV_Table_rows dc_Table_rows pm_Table_rows cd_Table_rows ct_Table_rows : Value}
    {t_MOST_COLUMNS : Tok}
    {t_MOST_LETTERS : Tok}
    {t_MOST_POWER : Tok}
    {t_MOST_ROWS : Tok}
    (aC : PySem.W.nsIn K mainGlobals "Ratio" = some (some (.ref C)))
    (a_is_count : PySem.W.nsIn K mainGlobals "is_count" = some (some (.ref f_is_count)))
    (l_is_count : K.lookup f_is_count = some ⟨oc_is_count, od_is_count, .func (PySem.W.fnOf "is_count" "is_count" (defArgs s_is_count) (defBody s_is_count) (defScope s_is_count) .none kV_is_count dc_is_count pm_is_count an_is_count cd_is_count ct_is_count), sl_is_count⟩)
    (c_is_count : PySem.W.codeIn K cd_is_count "is_count" = true)
    (k_is_count : PySem.W.keepIn K (.ref f_is_count) = true)
    (a_is_count_to : PySem.W.nsIn K mainGlobals "is_count_to" = some (some (.ref f_is_count_to)))
    (l_is_count_to : K.lookup f_is_count_to = some ⟨oc_is_count_to, od_is_count_to, .func (PySem.W.fnOf "is_count_to" "is_count_to" (defArgs s_is_count_to) (defBody s_is_count_to) (defScope s_is_count_to) .none kV_is_count_to dc_is_count_to pm_is_count_to an_is_count_to cd_is_count_to ct_is_count_to), sl_is_count_to⟩)
    (c_is_count_to : PySem.W.codeIn K cd_is_count_to "is_count_to" = true)
    (k_is_count_to : PySem.W.keepIn K (.ref f_is_count_to) = true)
    (a_is_list : PySem.W.nsIn K mainGlobals "is_list" = some (some (.ref f_is_list)))
    (l_is_list : K.lookup f_is_list = some ⟨oc_is_list, od_is_list, .func (PySem.W.fnOf "is_list" "is_list" (defArgs s_is_list) (defBody s_is_list) (defScope s_is_list) .none kV_is_list dc_is_list pm_is_list an_is_list cd_is_list ct_is_list), sl_is_list⟩)
    (c_is_list : PySem.W.codeIn K cd_is_list "is_list" = true)
    (k_is_list : PySem.W.keepIn K (.ref f_is_list) = true)
    (a_need_columns : PySem.W.nsIn K mainGlobals "need_columns" = some (some (.ref f_need_columns)))
    (l_need_columns : K.lookup f_need_columns = some ⟨oc_need_columns, od_need_columns, .func (PySem.W.fnOf "need_columns" "need_columns" (defArgs s_need_columns) (defBody s_need_columns) (defScope s_need_columns) .none kV_need_columns dc_need_columns pm_need_columns an_need_columns cd_need_columns ct_need_columns), sl_need_columns⟩)
    (c_need_columns : PySem.W.codeIn K cd_need_columns "need_columns" = true)
    (k_need_columns : PySem.W.keepIn K (.ref f_need_columns) = true)
    (a_need_like_columns : PySem.W.nsIn K mainGlobals "need_like_columns" = some (some (.ref f_need_like_columns)))
    (l_need_like_columns : K.lookup f_need_like_columns = some ⟨oc_need_like_columns, od_need_like_columns, .func (PySem.W.fnOf "need_like_columns" "need_like_columns" (defArgs s_need_like_columns) (defBody s_need_like_columns) (defScope s_need_like_columns) .none kV_need_like_columns dc_need_like_columns pm_need_like_columns an_need_like_columns cd_need_like_columns ct_need_like_columns), sl_need_like_columns⟩)
    (c_need_like_columns : PySem.W.codeIn K cd_need_like_columns "need_like_columns" = true)
    (k_need_like_columns : PySem.W.keepIn K (.ref f_need_like_columns) = true)
    (a_as_ratio : PySem.W.nsIn K mainGlobals "as_ratio" = some (some (.ref f_as_ratio)))
    (l_as_ratio : K.lookup f_as_ratio = some ⟨oc_as_ratio, od_as_ratio, .func (PySem.W.fnOf "as_ratio" "as_ratio" (defArgs s_as_ratio) (defBody s_as_ratio) (defScope s_as_ratio) .none kV_as_ratio dc_as_ratio pm_as_ratio an_as_ratio cd_as_ratio ct_as_ratio), sl_as_ratio⟩)
    (c_as_ratio : PySem.W.codeIn K cd_as_ratio "as_ratio" = true)
    (k_as_ratio : PySem.W.keepIn K (.ref f_as_ratio) = true)
    (a_are_numbers : PySem.W.nsIn K mainGlobals "are_numbers" = some (some (.ref f_are_numbers)))
    (l_are_numbers : K.lookup f_are_numbers = some ⟨oc_are_numbers, od_are_numbers, .func (PySem.W.fnOf "are_numbers" "are_numbers" (defArgs s_are_numbers) (defBody s_are_numbers) (defScope s_are_numbers) .none kV_are_numbers dc_are_numbers pm_are_numbers an_are_numbers cd_are_numbers ct_are_numbers), sl_are_numbers⟩)
    (c_are_numbers : PySem.W.codeIn K cd_are_numbers "are_numbers" = true)
    (k_are_numbers : PySem.W.keepIn K (.ref f_are_numbers) = true)
    (a_are_rows : PySem.W.nsIn K mainGlobals "are_rows" = some (some (.ref f_are_rows)))
    (l_are_rows : K.lookup f_are_rows = some ⟨oc_are_rows, od_are_rows, .func (PySem.W.fnOf "are_rows" "are_rows" (defArgs s_are_rows) (defBody s_are_rows) (defScope s_are_rows) .none kV_are_rows dc_are_rows pm_are_rows an_are_rows cd_are_rows ct_are_rows), sl_are_rows⟩)
    (c_are_rows : PySem.W.codeIn K cd_are_rows "are_rows" = true)
    (k_are_rows : PySem.W.keepIn K (.ref f_are_rows) = true)
    (a_need_table : PySem.W.nsIn K mainGlobals "need_table" = some (some (.ref f_need_table)))
    (l_need_table : K.lookup f_need_table = some ⟨oc_need_table, od_need_table, .func (PySem.W.fnOf "need_table" "need_table" (defArgs s_need_table) (defBody s_need_table) (defScope s_need_table) .none kV_need_table dc_need_table pm_need_table an_need_table cd_need_table ct_need_table), sl_need_table⟩)
    (c_need_table : PySem.W.codeIn K cd_need_table "need_table" = true)
    (k_need_table : PySem.W.keepIn K (.ref f_need_table) = true)
    (a_need_place_for_rows : PySem.W.nsIn K mainGlobals "need_place_for_rows" = some (some (.ref f_need_place_for_rows)))
    (l_need_place_for_rows : K.lookup f_need_place_for_rows = some ⟨oc_need_place_for_rows, od_need_place_for_rows, .func (PySem.W.fnOf "need_place_for_rows" "need_place_for_rows" (defArgs s_need_place_for_rows) (defBody s_need_place_for_rows) (defScope s_need_place_for_rows) .none kV_need_place_for_rows dc_need_place_for_rows pm_need_place_for_rows an_need_place_for_rows cd_need_place_for_rows ct_need_place_for_rows), sl_need_place_for_rows⟩)
    (c_need_place_for_rows : PySem.W.codeIn K cd_need_place_for_rows "need_place_for_rows" = true)
    (k_need_place_for_rows : PySem.W.keepIn K (.ref f_need_place_for_rows) = true)
    (a_joined : PySem.W.nsIn K mainGlobals "joined" = some (some (.ref f_joined)))
    (l_joined : K.lookup f_joined = some ⟨oc_joined, od_joined, .func (PySem.W.fnOf "joined" "joined" (defArgs s_joined) (defBody s_joined) (defScope s_joined) .none kV_joined dc_joined pm_joined an_joined cd_joined ct_joined), sl_joined⟩)
    (c_joined : PySem.W.codeIn K cd_joined "joined" = true)
    (k_joined : PySem.W.keepIn K (.ref f_joined) = true)
    (a_turned : PySem.W.nsIn K mainGlobals "turned" = some (some (.ref f_turned)))
    (l_turned : K.lookup f_turned = some ⟨oc_turned, od_turned, .func (PySem.W.fnOf "turned" "turned" (defArgs s_turned) (defBody s_turned) (defScope s_turned) .none kV_turned dc_turned pm_turned an_turned cd_turned ct_turned), sl_turned⟩)
    (c_turned : PySem.W.codeIn K cd_turned "turned" = true)
    (k_turned : PySem.W.keepIn K (.ref f_turned) = true)
    (a_is_letter_to : PySem.W.nsIn K mainGlobals "is_letter_to" = some (some (.ref f_is_letter_to)))
    (l_is_letter_to : K.lookup f_is_letter_to = some ⟨oc_is_letter_to, od_is_letter_to, .func (PySem.W.fnOf "is_letter_to" "is_letter_to" (defArgs s_is_letter_to) (defBody s_is_letter_to) (defScope s_is_letter_to) .none kV_is_letter_to dc_is_letter_to pm_is_letter_to an_is_letter_to cd_is_letter_to ct_is_letter_to), sl_is_letter_to⟩)
    (c_is_letter_to : PySem.W.codeIn K cd_is_letter_to "is_letter_to" = true)
    (k_is_letter_to : PySem.W.keepIn K (.ref f_is_letter_to) = true)
    (a_is_word_to : PySem.W.nsIn K mainGlobals "is_word_to" = some (some (.ref f_is_word_to)))
    (l_is_word_to : K.lookup f_is_word_to = some ⟨oc_is_word_to, od_is_word_to, .func (PySem.W.fnOf "is_word_to" "is_word_to" (defArgs s_is_word_to) (defBody s_is_word_to) (defScope s_is_word_to) .none kV_is_word_to dc_is_word_to pm_is_word_to an_is_word_to cd_is_word_to ct_is_word_to), sl_is_word_to⟩)
    (c_is_word_to : PySem.W.codeIn K cd_is_word_to "is_word_to" = true)
    (k_is_word_to : PySem.W.keepIn K (.ref f_is_word_to) = true)
    (a_is_word : PySem.W.nsIn K mainGlobals "is_word" = some (some (.ref f_is_word)))
    (l_is_word : K.lookup f_is_word = some ⟨oc_is_word, od_is_word, .func (PySem.W.fnOf "is_word" "is_word" (defArgs s_is_word) (defBody s_is_word) (defScope s_is_word) .none kV_is_word dc_is_word pm_is_word an_is_word cd_is_word ct_is_word), sl_is_word⟩)
    (c_is_word : PySem.W.codeIn K cd_is_word "is_word" = true)
    (k_is_word : PySem.W.keepIn K (.ref f_is_word) = true)
    (a_need_word : PySem.W.nsIn K mainGlobals "need_word" = some (some (.ref f_need_word)))
    (l_need_word : K.lookup f_need_word = some ⟨oc_need_word, od_need_word, .func (PySem.W.fnOf "need_word" "need_word" (defArgs s_need_word) (defBody s_need_word) (defScope s_need_word) .none kV_need_word dc_need_word pm_need_word an_need_word cd_need_word ct_need_word), sl_need_word⟩)
    (c_need_word : PySem.W.codeIn K cd_need_word "need_word" = true)
    (k_need_word : PySem.W.keepIn K (.ref f_need_word) = true)
    (a_worth_at : PySem.W.nsIn K mainGlobals "worth_at" = some (some (.ref f_worth_at)))
    (l_worth_at : K.lookup f_worth_at = some ⟨oc_worth_at, od_worth_at, .func (PySem.W.fnOf "worth_at" "worth_at" (defArgs s_worth_at) (defBody s_worth_at) (defScope s_worth_at) .none kV_worth_at dc_worth_at pm_worth_at an_worth_at cd_worth_at ct_worth_at), sl_worth_at⟩)
    (c_worth_at : PySem.W.codeIn K cd_worth_at "worth_at" = true)
    (k_worth_at : PySem.W.keepIn K (.ref f_worth_at) = true)
    (a_longer_sums : PySem.W.nsIn K mainGlobals "longer_sums" = some (some (.ref f_longer_sums)))
    (l_longer_sums : K.lookup f_longer_sums = some ⟨oc_longer_sums, od_longer_sums, .func (PySem.W.fnOf "longer_sums" "longer_sums" (defArgs s_longer_sums) (defBody s_longer_sums) (defScope s_longer_sums) .none kV_longer_sums dc_longer_sums pm_longer_sums an_longer_sums cd_longer_sums ct_longer_sums), sl_longer_sums⟩)
    (c_longer_sums : PySem.W.codeIn K cd_longer_sums "longer_sums" = true)
    (k_longer_sums : PySem.W.keepIn K (.ref f_longer_sums) = true)
    (a_sums_of : PySem.W.nsIn K mainGlobals "sums_of" = some (some (.ref f_sums_of)))
    (l_sums_of : K.lookup f_sums_of = some ⟨oc_sums_of, od_sums_of, .func (PySem.W.fnOf "sums_of" "sums_of" (defArgs s_sums_of) (defBody s_sums_of) (defScope s_sums_of) .none kV_sums_of dc_sums_of pm_sums_of an_sums_of cd_sums_of ct_sums_of), sl_sums_of⟩)
    (c_sums_of : PySem.W.codeIn K cd_sums_of "sums_of" = true)
    (k_sums_of : PySem.W.keepIn K (.ref f_sums_of) = true)
    (a_worths_at : PySem.W.nsIn K mainGlobals "worths_at" = some (some (.ref f_worths_at)))
    (l_worths_at : K.lookup f_worths_at = some ⟨oc_worths_at, od_worths_at, .func (PySem.W.fnOf "worths_at" "worths_at" (defArgs s_worths_at) (defBody s_worths_at) (defScope s_worths_at) .none kV_worths_at dc_worths_at pm_worths_at an_worths_at cd_worths_at ct_worths_at), sl_worths_at⟩)
    (c_worths_at : PySem.W.codeIn K cd_worths_at "worths_at" = true)
    (k_worths_at : PySem.W.keepIn K (.ref f_worths_at) = true)
    (a_sums_ahead : PySem.W.nsIn K mainGlobals "sums_ahead" = some (some (.ref f_sums_ahead)))
    (l_sums_ahead : K.lookup f_sums_ahead = some ⟨oc_sums_ahead, od_sums_ahead, .func (PySem.W.fnOf "sums_ahead" "sums_ahead" (defArgs s_sums_ahead) (defBody s_sums_ahead) (defScope s_sums_ahead) .none kV_sums_ahead dc_sums_ahead pm_sums_ahead an_sums_ahead cd_sums_ahead ct_sums_ahead), sl_sums_ahead⟩)
    (c_sums_ahead : PySem.W.codeIn K cd_sums_ahead "sums_ahead" = true)
    (k_sums_ahead : PySem.W.keepIn K (.ref f_sums_ahead) = true)
    (a_word_sum : PySem.W.nsIn K mainGlobals "word_sum" = some (some (.ref f_word_sum)))
    (l_word_sum : K.lookup f_word_sum = some ⟨oc_word_sum, od_word_sum, .func (PySem.W.fnOf "word_sum" "word_sum" (defArgs s_word_sum) (defBody s_word_sum) (defScope s_word_sum) .none kV_word_sum dc_word_sum pm_word_sum an_word_sum cd_word_sum ct_word_sum), sl_word_sum⟩)
    (c_word_sum : PySem.W.codeIn K cd_word_sum "word_sum" = true)
    (k_word_sum : PySem.W.keepIn K (.ref f_word_sum) = true)
    (a_sums_behind : PySem.W.nsIn K mainGlobals "sums_behind" = some (some (.ref f_sums_behind)))
    (l_sums_behind : K.lookup f_sums_behind = some ⟨oc_sums_behind, od_sums_behind, .func (PySem.W.fnOf "sums_behind" "sums_behind" (defArgs s_sums_behind) (defBody s_sums_behind) (defScope s_sums_behind) .none kV_sums_behind dc_sums_behind pm_sums_behind an_sums_behind cd_sums_behind ct_sums_behind), sl_sums_behind⟩)
    (c_sums_behind : PySem.W.codeIn K cd_sums_behind "sums_behind" = true)
    (k_sums_behind : PySem.W.keepIn K (.ref f_sums_behind) = true)
    (a_cuts : PySem.W.nsIn K mainGlobals "cuts" = some (some (.ref f_cuts)))
    (l_cuts : K.lookup f_cuts = some ⟨oc_cuts, od_cuts, .func (PySem.W.fnOf "cuts" "cuts" (defArgs s_cuts) (defBody s_cuts) (defScope s_cuts) .none kV_cuts dc_cuts pm_cuts an_cuts cd_cuts ct_cuts), sl_cuts⟩)
    (c_cuts : PySem.W.codeIn K cd_cuts "cuts" = true)
    (k_cuts : PySem.W.keepIn K (.ref f_cuts) = true)
    (a_turned_word : PySem.W.nsIn K mainGlobals "turned_word" = some (some (.ref f_turned_word)))
    (l_turned_word : K.lookup f_turned_word = some ⟨oc_turned_word, od_turned_word, .func (PySem.W.fnOf "turned_word" "turned_word" (defArgs s_turned_word) (defBody s_turned_word) (defScope s_turned_word) .none kV_turned_word dc_turned_word pm_turned_word an_turned_word cd_turned_word ct_turned_word), sl_turned_word⟩)
    (c_turned_word : PySem.W.codeIn K cd_turned_word "turned_word" = true)
    (k_turned_word : PySem.W.keepIn K (.ref f_turned_word) = true)
    (a_Ldivisor : PySem.W.nsIn K mainGlobals "_law_divisor" = some (some (.ref f_Ldivisor)))
    (l_Ldivisor : K.lookup f_Ldivisor = some ⟨oc_Ldivisor, od_Ldivisor, .func (PySem.W.fnOf "_law_divisor" "_law_divisor" (defArgs s__law_divisor) (defBody s__law_divisor) (defScope s__law_divisor) .none kV_Ldivisor dc_Ldivisor pm_Ldivisor an_Ldivisor cd_Ldivisor ct_Ldivisor), sl_Ldivisor⟩)
    (c_Ldivisor : PySem.W.codeIn K cd_Ldivisor "_law_divisor" = true)
    (k_Ldivisor : PySem.W.keepIn K (.ref f_Ldivisor) = true)
    (a_Llow : PySem.W.nsIn K mainGlobals "_law_low" = some (some (.ref f_Llow)))
    (l_Llow : K.lookup f_Llow = some ⟨oc_Llow, od_Llow, .func (PySem.W.fnOf "_law_low" "_law_low" (defArgs s__law_low) (defBody s__law_low) (defScope s__law_low) .none kV_Llow dc_Llow pm_Llow an_Llow cd_Llow ct_Llow), sl_Llow⟩)
    (c_Llow : PySem.W.codeIn K cd_Llow "_law_low" = true)
    (k_Llow : PySem.W.keepIn K (.ref f_Llow) = true)
    (a_Lplus : PySem.W.nsIn K mainGlobals "_law_plus" = some (some (.ref f_Lplus)))
    (l_Lplus : K.lookup f_Lplus = some ⟨oc_Lplus, od_Lplus, .func (PySem.W.fnOf "_law_plus" "_law_plus" (defArgs s__law_plus) (defBody s__law_plus) (defScope s__law_plus) .none kV_Lplus dc_Lplus pm_Lplus an_Lplus cd_Lplus ct_Lplus), sl_Lplus⟩)
    (c_Lplus : PySem.W.codeIn K cd_Lplus "_law_plus" = true)
    (k_Lplus : PySem.W.keepIn K (.ref f_Lplus) = true)
    (a_Ltimes : PySem.W.nsIn K mainGlobals "_law_times" = some (some (.ref f_Ltimes)))
    (l_Ltimes : K.lookup f_Ltimes = some ⟨oc_Ltimes, od_Ltimes, .func (PySem.W.fnOf "_law_times" "_law_times" (defArgs s__law_times) (defBody s__law_times) (defScope s__law_times) .none kV_Ltimes dc_Ltimes pm_Ltimes an_Ltimes cd_Ltimes ct_Ltimes), sl_Ltimes⟩)
    (c_Ltimes : PySem.W.codeIn K cd_Ltimes "_law_times" = true)
    (k_Ltimes : PySem.W.keepIn K (.ref f_Ltimes) = true)
    (a_Lratio : PySem.W.nsIn K mainGlobals "_law_ratio" = some (some (.ref f_Lratio)))
    (l_Lratio : K.lookup f_Lratio = some ⟨oc_Lratio, od_Lratio, .func (PySem.W.fnOf "_law_ratio" "_law_ratio" (defArgs s__law_ratio) (defBody s__law_ratio) (defScope s__law_ratio) .none kV_Lratio dc_Lratio pm_Lratio an_Lratio cd_Lratio ct_Lratio), sl_Lratio⟩)
    (c_Lratio : PySem.W.codeIn K cd_Lratio "_law_ratio" = true)
    (k_Lratio : PySem.W.keepIn K (.ref f_Lratio) = true)
    (a_Lnumber : PySem.W.nsIn K mainGlobals "_law_number" = some (some (.ref f_Lnumber)))
    (l_Lnumber : K.lookup f_Lnumber = some ⟨oc_Lnumber, od_Lnumber, .func (PySem.W.fnOf "_law_number" "_law_number" (defArgs s__law_number) (defBody s__law_number) (defScope s__law_number) .none kV_Lnumber dc_Lnumber pm_Lnumber an_Lnumber cd_Lnumber ct_Lnumber), sl_Lnumber⟩)
    (c_Lnumber : PySem.W.codeIn K cd_Lnumber "_law_number" = true)
    (k_Lnumber : PySem.W.keepIn K (.ref f_Lnumber) = true)
    (a_Lrows : PySem.W.nsIn K mainGlobals "_law_rows" = some (some (.ref f_Lrows)))
    (l_Lrows : K.lookup f_Lrows = some ⟨oc_Lrows, od_Lrows, .func (PySem.W.fnOf "_law_rows" "_law_rows" (defArgs s__law_rows) (defBody s__law_rows) (defScope s__law_rows) .none kV_Lrows dc_Lrows pm_Lrows an_Lrows cd_Lrows ct_Lrows), sl_Lrows⟩)
    (c_Lrows : PySem.W.codeIn K cd_Lrows "_law_rows" = true)
    (k_Lrows : PySem.W.keepIn K (.ref f_Lrows) = true)
    (a_Lpassed : PySem.W.nsIn K mainGlobals "_law_passed" = some (some (.ref f_Lpassed)))
    (l_Lpassed : K.lookup f_Lpassed = some ⟨oc_Lpassed, od_Lpassed, .func (PySem.W.fnOf "_law_passed" "_law_passed" (defArgs s__law_passed) (defBody s__law_passed) (defScope s__law_passed) .none kV_Lpassed dc_Lpassed pm_Lpassed an_Lpassed cd_Lpassed ct_Lpassed), sl_Lpassed⟩)
    (c_Lpassed : PySem.W.codeIn K cd_Lpassed "_law_passed" = true)
    (k_Lpassed : PySem.W.keepIn K (.ref f_Lpassed) = true)
    (a_Ltable : PySem.W.nsIn K mainGlobals "_law_table" = some (some (.ref f_Ltable)))
    (l_Ltable : K.lookup f_Ltable = some ⟨oc_Ltable, od_Ltable, .func (PySem.W.fnOf "_law_table" "_law_table" (defArgs s__law_table) (defBody s__law_table) (defScope s__law_table) .none kV_Ltable dc_Ltable pm_Ltable an_Ltable cd_Ltable ct_Ltable), sl_Ltable⟩)
    (c_Ltable : PySem.W.codeIn K cd_Ltable "_law_table" = true)
    (k_Ltable : PySem.W.keepIn K (.ref f_Ltable) = true)
    (a_Lletter : PySem.W.nsIn K mainGlobals "_law_letter" = some (some (.ref f_Lletter)))
    (l_Lletter : K.lookup f_Lletter = some ⟨oc_Lletter, od_Lletter, .func (PySem.W.fnOf "_law_letter" "_law_letter" (defArgs s__law_letter) (defBody s__law_letter) (defScope s__law_letter) .none kV_Lletter dc_Lletter pm_Lletter an_Lletter cd_Lletter ct_Lletter), sl_Lletter⟩)
    (c_Lletter : PySem.W.codeIn K cd_Lletter "_law_letter" = true)
    (k_Lletter : PySem.W.keepIn K (.ref f_Lletter) = true)
    (a_Lword : PySem.W.nsIn K mainGlobals "_law_word" = some (some (.ref f_Lword)))
    (l_Lword : K.lookup f_Lword = some ⟨oc_Lword, od_Lword, .func (PySem.W.fnOf "_law_word" "_law_word" (defArgs s__law_word) (defBody s__law_word) (defScope s__law_word) .none kV_Lword dc_Lword pm_Lword an_Lword cd_Lword ct_Lword), sl_Lword⟩)
    (c_Lword : PySem.W.codeIn K cd_Lword "_law_word" = true)
    (k_Lword : PySem.W.keepIn K (.ref f_Lword) = true)
    (a_Lworth : PySem.W.nsIn K mainGlobals "_law_worth" = some (some (.ref f_Lworth)))
    (l_Lworth : K.lookup f_Lworth = some ⟨oc_Lworth, od_Lworth, .func (PySem.W.fnOf "_law_worth" "_law_worth" (defArgs s__law_worth) (defBody s__law_worth) (defScope s__law_worth) .none kV_Lworth dc_Lworth pm_Lworth an_Lworth cd_Lworth ct_Lworth), sl_Lworth⟩)
    (c_Lworth : PySem.W.codeIn K cd_Lworth "_law_worth" = true)
    (k_Lworth : PySem.W.keepIn K (.ref f_Lworth) = true)
    (a_Lchoices : PySem.W.nsIn K mainGlobals "_law_choices" = some (some (.ref f_Lchoices)))
    (l_Lchoices : K.lookup f_Lchoices = some ⟨oc_Lchoices, od_Lchoices, .func (PySem.W.fnOf "_law_choices" "_law_choices" (defArgs s__law_choices) (defBody s__law_choices) (defScope s__law_choices) .none kV_Lchoices dc_Lchoices pm_Lchoices an_Lchoices cd_Lchoices ct_Lchoices), sl_Lchoices⟩)
    (c_Lchoices : PySem.W.codeIn K cd_Lchoices "_law_choices" = true)
    (k_Lchoices : PySem.W.keepIn K (.ref f_Lchoices) = true)
    (a_Lsum : PySem.W.nsIn K mainGlobals "_law_sum" = some (some (.ref f_Lsum)))
    (l_Lsum : K.lookup f_Lsum = some ⟨oc_Lsum, od_Lsum, .func (PySem.W.fnOf "_law_sum" "_law_sum" (defArgs s__law_sum) (defBody s__law_sum) (defScope s__law_sum) .none kV_Lsum dc_Lsum pm_Lsum an_Lsum cd_Lsum ct_Lsum), sl_Lsum⟩)
    (c_Lsum : PySem.W.codeIn K cd_Lsum "_law_sum" = true)
    (k_Lsum : PySem.W.keepIn K (.ref f_Lsum) = true)
    (a_Lone_right : PySem.W.nsIn K mainGlobals "_law_one_right" = some (some (.ref f_Lone_right)))
    (l_Lone_right : K.lookup f_Lone_right = some ⟨oc_Lone_right, od_Lone_right, .func (PySem.W.fnOf "_law_one_right" "_law_one_right" (defArgs s__law_one_right) (defBody s__law_one_right) (defScope s__law_one_right) .none kV_Lone_right dc_Lone_right pm_Lone_right an_Lone_right cd_Lone_right ct_Lone_right), sl_Lone_right⟩)
    (c_Lone_right : PySem.W.codeIn K cd_Lone_right "_law_one_right" = true)
    (k_Lone_right : PySem.W.keepIn K (.ref f_Lone_right) = true)
    (a_Lright : PySem.W.nsIn K mainGlobals "_law_right" = some (some (.ref f_Lright)))
    (l_Lright : K.lookup f_Lright = some ⟨oc_Lright, od_Lright, .func (PySem.W.fnOf "_law_right" "_law_right" (defArgs s__law_right) (defBody s__law_right) (defScope s__law_right) .none kV_Lright dc_Lright pm_Lright an_Lright cd_Lright ct_Lright), sl_Lright⟩)
    (c_Lright : PySem.W.codeIn K cd_Lright "_law_right" = true)
    (k_Lright : PySem.W.keepIn K (.ref f_Lright) = true)
    (a_Ldraw : PySem.W.nsIn K mainGlobals "_law_draw" = some (some (.ref f_Ldraw)))
    (l_Ldraw : K.lookup f_Ldraw = some ⟨oc_Ldraw, od_Ldraw, .func (PySem.W.fnOf "_law_draw" "_law_draw" (defArgs s_draw) (defBody s_draw) (defScope s_draw) .none kV_Ldraw dc_Ldraw pm_Ldraw an_Ldraw cd_Ldraw ct_Ldraw), sl_Ldraw⟩)
    (c_Ldraw : PySem.W.codeIn K cd_Ldraw "_law_draw" = true)
    (k_Ldraw : PySem.W.keepIn K (.ref f_Ldraw) = true)
    (a_Lpot : PySem.W.nsIn K mainGlobals "_law_pot" = some (some (.ref f_Lpot)))
    (l_Lpot : K.lookup f_Lpot = some ⟨oc_Lpot, od_Lpot, .func (PySem.W.fnOf "_law_pot" "_law_pot" (defArgs s_pot) (defBody s_pot) (defScope s_pot) .none kV_Lpot dc_Lpot pm_Lpot an_Lpot cd_Lpot ct_Lpot), sl_Lpot⟩)
    (c_Lpot : PySem.W.codeIn K cd_Lpot "_law_pot" = true)
    (k_Lpot : PySem.W.keepIn K (.ref f_Lpot) = true)
    (a_isInt : PySem.W.nsIn K mainGlobals "is_integer" = some (some (.ref f_isInt)))
    (l_isInt : K.lookup f_isInt = some ⟨oc_isInt, od_isInt, .func (PySem.W.fnOf "is_integer" "is_integer" (defArgs s_isInt) (defBody s_isInt) (defScope s_isInt) .none kV_isInt dc_isInt pm_isInt an_isInt cd_isInt ct_isInt), sl_isInt⟩)
    (c_isInt : PySem.W.codeIn K cd_isInt "is_integer" = true)
    (k_isInt : PySem.W.keepIn K (.ref f_isInt) = true)
    (a_isNum : PySem.W.nsIn K mainGlobals "is_number" = some (some (.ref f_isNum)))
    (l_isNum : K.lookup f_isNum = some ⟨oc_isNum, od_isNum, .func (PySem.W.fnOf "is_number" "is_number" (defArgs s_isNum) (defBody s_isNum) (defScope s_isNum) .none kV_isNum dc_isNum pm_isNum an_isNum cd_isNum ct_isNum), sl_isNum⟩)
    (c_isNum : PySem.W.codeIn K cd_isNum "is_number" = true)
    (k_isNum : PySem.W.keepIn K (.ref f_isNum) = true)
    (a_need : PySem.W.nsIn K mainGlobals "need_number" = some (some (.ref f_need)))
    (l_need : K.lookup f_need = some ⟨oc_need, od_need, .func (PySem.W.fnOf "need_number" "need_number" (defArgs s_need) (defBody s_need) (defScope s_need) .none kV_need dc_need pm_need an_need cd_need ct_need), sl_need⟩)
    (c_need : PySem.W.codeIn K cd_need "need_number" = true)
    (k_need : PySem.W.keepIn K (.ref f_need) = true)
    (a_tb : PySem.W.nsIn K mainGlobals "top_and_bottom" = some (some (.ref f_tb)))
    (l_tb : K.lookup f_tb = some ⟨oc_tb, od_tb, .func (PySem.W.fnOf "top_and_bottom" "top_and_bottom" (defArgs s_tb) (defBody s_tb) (defScope s_tb) .none kV_tb dc_tb pm_tb an_tb cd_tb ct_tb), sl_tb⟩)
    (c_tb : PySem.W.codeIn K cd_tb "top_and_bottom" = true)
    (k_tb : PySem.W.keepIn K (.ref f_tb) = true)
    (a_law : PySem.W.nsIn K mainGlobals "law" = some (some (.ref f_law)))
    (l_law : K.lookup f_law = some ⟨oc_law, od_law, .func (PySem.W.fnOf "law" "law" (defArgs s_law) (defBody s_law) (defScope s_law) .none kV_law dc_law pm_law an_law cd_law ct_law), sl_law⟩)
    (c_law : PySem.W.codeIn K cd_law "law" = true)
    (k_law : PySem.W.keepIn K (.ref f_law) = true)
    (a_Rinit : PySem.W.findIn K (.ref C) "__init__" = some (some (.ref f_Rinit)))
    (i_Rinit : PySem.W.isFn K (.ref f_Rinit) = true)
    (l_Rinit : K.lookup f_Rinit = some ⟨oc_Rinit, od_Rinit, .func (PySem.W.fnOf "__init__" "Ratio.__init__" (defArgs s_Rinit) (defBody s_Rinit) (defScope s_Rinit) (.ref T1) kV_Rinit dc_Rinit pm_Rinit an_Rinit cd_Rinit ct_Rinit), sl_Rinit⟩)
    (c_Rinit : PySem.W.codeIn K cd_Rinit "Ratio.__init__" = true)
    (k_Rinit : PySem.W.keepIn K (.ref f_Rinit) = true)
    (lT : K.lookup T1 = some ⟨ocT, odT, .seq [Value.int 1 tk1].toArray nT, slT⟩)
    (a_Rtop : PySem.W.findIn K (.ref C) "top" = some (some (.ref p_Rtop)))
    (gg_Rtop : PySem.W.specialIn K (.ref p_Rtop) "__get__" = some (some (.builtin "property.__get__")))
    (t_Rtop : PySem.W.takesIn K (.ref p_Rtop) = some true)
    (e_Rtop : PySem.W.recIn K p_Rtop "property" = some (.ref f_Rtop :: r_Rtop))
    (l_Rtop : K.lookup f_Rtop = some ⟨oc_Rtop, od_Rtop, .func (PySem.W.fnOf "top" "Ratio.top" (defArgs s_Rtop) (defBody s_Rtop) (defScope s_Rtop) .none kV_Rtop dc_Rtop pm_Rtop an_Rtop cd_Rtop ct_Rtop), sl_Rtop⟩)
    (c_Rtop : PySem.W.codeIn K cd_Rtop "Ratio.top" = true)
    (k_Rtop : PySem.W.keepIn K (.ref f_Rtop) = true)
    (a_Rbottom : PySem.W.findIn K (.ref C) "bottom" = some (some (.ref p_Rbottom)))
    (gg_Rbottom : PySem.W.specialIn K (.ref p_Rbottom) "__get__" = some (some (.builtin "property.__get__")))
    (t_Rbottom : PySem.W.takesIn K (.ref p_Rbottom) = some true)
    (e_Rbottom : PySem.W.recIn K p_Rbottom "property" = some (.ref f_Rbottom :: r_Rbottom))
    (l_Rbottom : K.lookup f_Rbottom = some ⟨oc_Rbottom, od_Rbottom, .func (PySem.W.fnOf "bottom" "Ratio.bottom" (defArgs s_Rbottom) (defBody s_Rbottom) (defScope s_Rbottom) .none kV_Rbottom dc_Rbottom pm_Rbottom an_Rbottom cd_Rbottom ct_Rbottom), sl_Rbottom⟩)
    (c_Rbottom : PySem.W.codeIn K cd_Rbottom "Ratio.bottom" = true)
    (k_Rbottom : PySem.W.keepIn K (.ref f_Rbottom) = true)
    (a_Radd : PySem.W.findIn K (.ref C) "__add__" = some (some (.ref f_Radd)))
    (i_Radd : PySem.W.isFn K (.ref f_Radd) = true)
    (l_Radd : K.lookup f_Radd = some ⟨oc_Radd, od_Radd, .func (PySem.W.fnOf "__add__" "Ratio.__add__" (defArgs s_Radd) (defBody s_Radd) (defScope s_Radd) .none kV_Radd dc_Radd pm_Radd an_Radd cd_Radd ct_Radd), sl_Radd⟩)
    (c_Radd : PySem.W.codeIn K cd_Radd "Ratio.__add__" = true)
    (k_Radd : PySem.W.keepIn K (.ref f_Radd) = true)
    (a_Rradd : PySem.W.findIn K (.ref C) "__radd__" = some (some (.ref f_Rradd)))
    (i_Rradd : PySem.W.isFn K (.ref f_Rradd) = true)
    (l_Rradd : K.lookup f_Rradd = some ⟨oc_Rradd, od_Rradd, .func (PySem.W.fnOf "__radd__" "Ratio.__radd__" (defArgs s_Rradd) (defBody s_Rradd) (defScope s_Rradd) .none kV_Rradd dc_Rradd pm_Rradd an_Rradd cd_Rradd ct_Rradd), sl_Rradd⟩)
    (c_Rradd : PySem.W.codeIn K cd_Rradd "Ratio.__radd__" = true)
    (k_Rradd : PySem.W.keepIn K (.ref f_Rradd) = true)
    (a_Rmul : PySem.W.findIn K (.ref C) "__mul__" = some (some (.ref f_Rmul)))
    (i_Rmul : PySem.W.isFn K (.ref f_Rmul) = true)
    (l_Rmul : K.lookup f_Rmul = some ⟨oc_Rmul, od_Rmul, .func (PySem.W.fnOf "__mul__" "Ratio.__mul__" (defArgs s_Rmul) (defBody s_Rmul) (defScope s_Rmul) .none kV_Rmul dc_Rmul pm_Rmul an_Rmul cd_Rmul ct_Rmul), sl_Rmul⟩)
    (c_Rmul : PySem.W.codeIn K cd_Rmul "Ratio.__mul__" = true)
    (k_Rmul : PySem.W.keepIn K (.ref f_Rmul) = true)
    (a_Rrmul : PySem.W.findIn K (.ref C) "__rmul__" = some (some (.ref f_Rrmul)))
    (i_Rrmul : PySem.W.isFn K (.ref f_Rrmul) = true)
    (l_Rrmul : K.lookup f_Rrmul = some ⟨oc_Rrmul, od_Rrmul, .func (PySem.W.fnOf "__rmul__" "Ratio.__rmul__" (defArgs s_Rrmul) (defBody s_Rrmul) (defScope s_Rrmul) .none kV_Rrmul dc_Rrmul pm_Rrmul an_Rrmul cd_Rrmul ct_Rrmul), sl_Rrmul⟩)
    (c_Rrmul : PySem.W.codeIn K cd_Rrmul "Ratio.__rmul__" = true)
    (k_Rrmul : PySem.W.keepIn K (.ref f_Rrmul) = true)
    (a_Req : PySem.W.findIn K (.ref C) "__eq__" = some (some (.ref f_Req)))
    (i_Req : PySem.W.isFn K (.ref f_Req) = true)
    (l_Req : K.lookup f_Req = some ⟨oc_Req, od_Req, .func (PySem.W.fnOf "__eq__" "Ratio.__eq__" (defArgs s_Req) (defBody s_Req) (defScope s_Req) .none kV_Req dc_Req pm_Req an_Req cd_Req ct_Req), sl_Req⟩)
    (c_Req : PySem.W.codeIn K cd_Req "Ratio.__eq__" = true)
    (k_Req : PySem.W.keepIn K (.ref f_Req) = true)
    (a_Rrepr : PySem.W.findIn K (.ref C) "__repr__" = some (some (.ref f_Rrepr)))
    (i_Rrepr : PySem.W.isFn K (.ref f_Rrepr) = true)
    (l_Rrepr : K.lookup f_Rrepr = some ⟨oc_Rrepr, od_Rrepr, .func (PySem.W.fnOf "__repr__" "Ratio.__repr__" (defArgs s_Rrepr) (defBody s_Rrepr) (defScope s_Rrepr) .none kV_Rrepr dc_Rrepr pm_Rrepr an_Rrepr cd_Rrepr ct_Rrepr), sl_Rrepr⟩)
    (c_Rrepr : PySem.W.codeIn K cd_Rrepr "Ratio.__repr__" = true)
    (k_Rrepr : PySem.W.keepIn K (.ref f_Rrepr) = true)
    (mk : PySem.W.makesIn K C = true)
    (kC : PySem.W.keepIn K (.ref C) = true)
    (pg : PySem.W.plainGet K C Str.empty = true)
    (hd : PySem.W.hasDictIn K C = true)
    (po : PySem.W.plainOver K C = true)
    (sa : PySem.W.findIn K (.ref C) "__setattr__" = some (some (.builtin "object.__setattr__")))
    (nt : PySem.W.findIn K (.ref C) "_top" = some none)
    (nb : PySem.W.findIn K (.ref C) "_bottom" = some none)
    (clA : PySem.W.findIn K (.ref C) "__class__" = some (some (.builtin "object.__class__")))
    (clN : PySem.W.specialIn K (.builtin "object.__class__") "__get__" = some (some (.builtin "getset_descriptor.__get__")))
    (clT : PySem.W.takesIn K (.builtin "object.__class__") = some true)
    (clM : PySem.W.mroIn K C (.type "object") = some true)
    (isC : PySem.W.isClsIn K C = true)
    (tyC : PySem.W.typeIn K (.ref C) = some (.type "type"))
    (gcd : PySem.W.nsIn K mainGlobals "gcd" = some (some (.builtin "math.gcd")))
    (sf : PySem.W.selfFirst K C = true)
    (nf1 : PySem.W.notFirst K C (.type "int") = true)
    (nf2 : PySem.W.notFirst K C (.ref C) = true)
    (neC : PySem.W.findIn K (.ref C) "__ne__" = some (some (.builtin "object.__ne__")))
    (no_add : PySem.W.findIn K (.type "int") "__add__" = some (some vo_add))
    (nr_add : PySem.W.findIn K (.type "int") "__radd__" = some (some vr_add))
    (sq_add : PySem.isSeqSlot (some vo_add) = false)
    (no_mul : PySem.W.findIn K (.type "int") "__mul__" = some (some vo_mul))
    (nr_mul : PySem.W.findIn K (.type "int") "__rmul__" = some (some vr_mul))
    (sq_mul : PySem.isSeqSlot (some vo_mul) = false)
    (su_int : PySem.W.subIn K (.ref C) (.type "int") = some false)
    (su_bool : PySem.W.subIn K (.ref C) (.type "bool") = some false)
    (su_str : PySem.W.subIn K (.ref C) (.type "str") = some false)
    (su_tuple : PySem.W.subIn K (.ref C) (.type "tuple") = some false)
    (su_list : PySem.W.subIn K (.ref C) (.type "list") = some false)
    (su_NoneType : PySem.W.subIn K (.ref C) (.type "NoneType") = some false)
    (us_int : PySem.W.subIn K (.type "int") (.ref C) = some false)
    (us_bool : PySem.W.subIn K (.type "bool") (.ref C) = some false)
    (us_str : PySem.W.subIn K (.type "str") (.ref C) = some false)
    (us_tuple : PySem.W.subIn K (.type "tuple") (.ref C) = some false)
    (us_list : PySem.W.subIn K (.type "list") (.ref C) = some false)
    (us_NoneType : PySem.W.subIn K (.type "NoneType") (.ref C) = some false)
    (us_dict : PySem.W.subIn K (.type "dict") (.ref C) = some false)
    (aC_Table : PySem.W.nsIn K mainGlobals "Table" = some (some (.ref CTable)))
    (a_Table_init : PySem.W.findIn K (.ref CTable) "__init__" = some (some (.ref f_Table_init)))
    (i_Table_init : PySem.W.isFn K (.ref f_Table_init) = true)
    (l_Table_init : K.lookup f_Table_init = some ⟨oc_Table_init, od_Table_init, .func (PySem.W.fnOf "__init__" "Table.__init__" (defArgs s_Table_init) (defBody s_Table_init) (defScope s_Table_init) .none kV_Table_init dc_Table_init pm_Table_init an_Table_init cd_Table_init ct_Table_init), sl_Table_init⟩)
    (c_Table_init : PySem.W.codeIn K cd_Table_init "Table.__init__" = true)
    (k_Table_init : PySem.W.keepIn K (.ref f_Table_init) = true)
    (a_Table_columns : PySem.W.findIn K (.ref CTable) "columns" = some (some (.ref p_Table_columns)))
    (gg_Table_columns : PySem.W.specialIn K (.ref p_Table_columns) "__get__" = some (some (.builtin "property.__get__")))
    (t_Table_columns : PySem.W.takesIn K (.ref p_Table_columns) = some true)
    (e_Table_columns : PySem.W.recIn K p_Table_columns "property" = some (.ref f_Table_columns :: r_Table_columns))
    (l_Table_columns : K.lookup f_Table_columns = some ⟨oc_Table_columns, od_Table_columns, .func (PySem.W.fnOf "columns" "Table.columns" (defArgs s_Table_columns) (defBody s_Table_columns) (defScope s_Table_columns) .none kV_Table_columns dc_Table_columns pm_Table_columns an_Table_columns cd_Table_columns ct_Table_columns), sl_Table_columns⟩)
    (c_Table_columns : PySem.W.codeIn K cd_Table_columns "Table.columns" = true)
    (k_Table_columns : PySem.W.keepIn K (.ref f_Table_columns) = true)
    (a_Table_height : PySem.W.findIn K (.ref CTable) "height" = some (some (.ref p_Table_height)))
    (gg_Table_height : PySem.W.specialIn K (.ref p_Table_height) "__get__" = some (some (.builtin "property.__get__")))
    (t_Table_height : PySem.W.takesIn K (.ref p_Table_height) = some true)
    (e_Table_height : PySem.W.recIn K p_Table_height "property" = some (.ref f_Table_height :: r_Table_height))
    (l_Table_height : K.lookup f_Table_height = some ⟨oc_Table_height, od_Table_height, .func (PySem.W.fnOf "height" "Table.height" (defArgs s_Table_height) (defBody s_Table_height) (defScope s_Table_height) .none kV_Table_height dc_Table_height pm_Table_height an_Table_height cd_Table_height ct_Table_height), sl_Table_height⟩)
    (c_Table_height : PySem.W.codeIn K cd_Table_height "Table.height" = true)
    (k_Table_height : PySem.W.keepIn K (.ref f_Table_height) = true)
    (a_Table_rows : PySem.W.findIn K (.ref CTable) "rows" = some (some (.ref f_Table_rows)))
    (i_Table_rows : PySem.W.isFn K (.ref f_Table_rows) = true)
    (l_Table_rows : K.lookup f_Table_rows = some ⟨oc_Table_rows, od_Table_rows, .func (PySem.W.fnOf "rows" "Table.rows" (defArgs s_Table_rows) (defBody s_Table_rows) (defScope s_Table_rows) .none kV_Table_rows dc_Table_rows pm_Table_rows an_Table_rows cd_Table_rows ct_Table_rows), sl_Table_rows⟩)
    (c_Table_rows : PySem.W.codeIn K cd_Table_rows "Table.rows" = true)
    (k_Table_rows : PySem.W.keepIn K (.ref f_Table_rows) = true)
    (mk_Table : PySem.W.makesIn K CTable = true)
    (kC_Table : PySem.W.keepIn K (.ref CTable) = true)
    (pg_Table : PySem.W.plainGet K CTable Str.empty = true)
    (hd_Table : PySem.W.hasDictIn K CTable = true)
    (po_Table : PySem.W.plainOver K CTable = true)
    (sa_Table : PySem.W.findIn K (.ref CTable) "__setattr__" = some (some (.builtin "object.__setattr__")))
    (clA_Table : PySem.W.findIn K (.ref CTable) "__class__" = some (some (.builtin "object.__class__")))
    (clM_Table : PySem.W.mroIn K CTable (.type "object") = some true)
    (isC_Table : PySem.W.isClsIn K CTable = true)
    (tyC_Table : PySem.W.typeIn K (.ref CTable) = some (.type "type"))
    (no_Table_columns : PySem.W.findIn K (.ref CTable) "_columns" = some none)
    (no_Table_rows : PySem.W.findIn K (.ref CTable) "_rows" = some none)
    (su_int_Table : PySem.W.subIn K (.ref CTable) (.type "int") = some false)
    (su_bool_Table : PySem.W.subIn K (.ref CTable) (.type "bool") = some false)
    (su_str_Table : PySem.W.subIn K (.ref CTable) (.type "str") = some false)
    (su_tuple_Table : PySem.W.subIn K (.ref CTable) (.type "tuple") = some false)
    (su_list_Table : PySem.W.subIn K (.ref CTable) (.type "list") = some false)
    (su_NoneType_Table : PySem.W.subIn K (.ref CTable) (.type "NoneType") = some false)
    (us_int_Table : PySem.W.subIn K (.type "int") (.ref CTable) = some false)
    (us_bool_Table : PySem.W.subIn K (.type "bool") (.ref CTable) = some false)
    (us_str_Table : PySem.W.subIn K (.type "str") (.ref CTable) = some false)
    (us_tuple_Table : PySem.W.subIn K (.type "tuple") (.ref CTable) = some false)
    (us_list_Table : PySem.W.subIn K (.type "list") (.ref CTable) = some false)
    (us_NoneType_Table : PySem.W.subIn K (.type "NoneType") (.ref CTable) = some false)
    (rr_Ratio_Table : PySem.W.subIn K (.ref C) (.ref CTable) = some false)
    (rr_Table_Ratio : PySem.W.subIn K (.ref CTable) (.ref C) = some false)
    (nc_Table : PySem.W.findIn K (.ref C) "columns" = some none)
    (z_abs : PySem.W.nsIn K mainGlobals "abs" = some none)
    (z_all : PySem.W.nsIn K mainGlobals "all" = some none)
    (z_bool : PySem.W.nsIn K mainGlobals "bool" = some none)
    (z_divmod : PySem.W.nsIn K mainGlobals "divmod" = some none)
    (z_enumerate : PySem.W.nsIn K mainGlobals "enumerate" = some none)
    (z_int : PySem.W.nsIn K mainGlobals "int" = some none)
    (z_isinstance : PySem.W.nsIn K mainGlobals "isinstance" = some none)
    (z_len : PySem.W.nsIn K mainGlobals "len" = some none)
    (z_list : PySem.W.nsIn K mainGlobals "list" = some none)
    (z_max : PySem.W.nsIn K mainGlobals "max" = some none)
    (z_range : PySem.W.nsIn K mainGlobals "range" = some none)
    (z_tuple : PySem.W.nsIn K mainGlobals "tuple" = some none)
    (z_zip : PySem.W.nsIn K mainGlobals "zip" = some none)
    (v_MOST_COLUMNS : PySem.W.nsIn K mainGlobals "MOST_COLUMNS" = some (some (.int 3 t_MOST_COLUMNS)))
    (v_MOST_LETTERS : PySem.W.nsIn K mainGlobals "MOST_LETTERS" = some (some (.int 8 t_MOST_LETTERS)))
    (v_MOST_POWER : PySem.W.nsIn K mainGlobals "MOST_POWER" = some (some (.int 8 t_MOST_POWER)))
    (v_MOST_ROWS : PySem.W.nsIn K mainGlobals "MOST_ROWS" = some (some (.int 40 t_MOST_ROWS)))
    : ∃ fd : FuncData, (∀ (s : Shared) (v : Value), BindsTo s fd ⟨[v], []⟩ [("_law_script", v)]) ∧ ∀ base : Heap, K.In base → base.Ns mainGlobals mg → FnG l.prog w K mg base CX0 13 fa fd ["_law_script"] (spL K) := by
  have e := hfa.symm.trans (PySem.W.mg_of X G a_law)
  cases e
  have F_is_count := fun_mk (st := s_is_count) l_is_count c_is_count k_is_count
  have B_is_count := F_is_count.binds (ps := ["value"]) fun _ _ _ _ _ _ us hl => match us, hl with | [_], _ => rfl
  have m_is_count := PySem.W.mg_of X G a_is_count
  have F_is_count_to := fun_mk (st := s_is_count_to) l_is_count_to c_is_count_to k_is_count_to
  have B_is_count_to := F_is_count_to.binds (ps := ["value", "most"]) fun _ _ _ _ _ _ us hl => match us, hl with | [_, _], _ => rfl
  have m_is_count_to := PySem.W.mg_of X G a_is_count_to
  have F_is_list := fun_mk (st := s_is_list) l_is_list c_is_list k_is_list
  have B_is_list := F_is_list.binds (ps := ["value"]) fun _ _ _ _ _ _ us hl => match us, hl with | [_], _ => rfl
  have m_is_list := PySem.W.mg_of X G a_is_list
  have F_need_columns := fun_mk (st := s_need_columns) l_need_columns c_need_columns k_need_columns
  have B_need_columns := F_need_columns.binds (ps := ["columns"]) fun _ _ _ _ _ _ us hl => match us, hl with | [_], _ => rfl
  have m_need_columns := PySem.W.mg_of X G a_need_columns
  have F_need_like_columns := fun_mk (st := s_need_like_columns) l_need_like_columns c_need_like_columns k_need_like_columns
  have B_need_like_columns := F_need_like_columns.binds (ps := ["first", "second"]) fun _ _ _ _ _ _ us hl => match us, hl with | [_, _], _ => rfl
  have m_need_like_columns := PySem.W.mg_of X G a_need_like_columns
  have F_as_ratio := fun_mk (st := s_as_ratio) l_as_ratio c_as_ratio k_as_ratio
  have B_as_ratio := F_as_ratio.binds (ps := ["number"]) fun _ _ _ _ _ _ us hl => match us, hl with | [_], _ => rfl
  have m_as_ratio := PySem.W.mg_of X G a_as_ratio
  have F_are_numbers := fun_mk (st := s_are_numbers) l_are_numbers c_are_numbers k_are_numbers
  have B_are_numbers := F_are_numbers.binds (ps := ["value", "many"]) fun _ _ _ _ _ _ us hl => match us, hl with | [_, _], _ => rfl
  have m_are_numbers := PySem.W.mg_of X G a_are_numbers
  have F_are_rows := fun_mk (st := s_are_rows) l_are_rows c_are_rows k_are_rows
  have B_are_rows := F_are_rows.binds (ps := ["columns", "value"]) fun _ _ _ _ _ _ us hl => match us, hl with | [_, _], _ => rfl
  have m_are_rows := PySem.W.mg_of X G a_are_rows
  have F_need_table := fun_mk (st := s_need_table) l_need_table c_need_table k_need_table
  have B_need_table := F_need_table.binds (ps := ["table"]) fun _ _ _ _ _ _ us hl => match us, hl with | [_], _ => rfl
  have m_need_table := PySem.W.mg_of X G a_need_table
  have F_need_place_for_rows := fun_mk (st := s_need_place_for_rows) l_need_place_for_rows c_need_place_for_rows k_need_place_for_rows
  have B_need_place_for_rows := F_need_place_for_rows.binds (ps := ["many"]) fun _ _ _ _ _ _ us hl => match us, hl with | [_], _ => rfl
  have m_need_place_for_rows := PySem.W.mg_of X G a_need_place_for_rows
  have F_joined := fun_mk (st := s_joined) l_joined c_joined k_joined
  have B_joined := F_joined.binds (ps := ["table", "other"]) fun _ _ _ _ _ _ us hl => match us, hl with | [_, _], _ => rfl
  have m_joined := PySem.W.mg_of X G a_joined
  have F_turned := fun_mk (st := s_turned) l_turned c_turned k_turned
  have B_turned := F_turned.binds (ps := ["table"]) fun _ _ _ _ _ _ us hl => match us, hl with | [_], _ => rfl
  have m_turned := PySem.W.mg_of X G a_turned
  have F_is_letter_to := fun_mk (st := s_is_letter_to) l_is_letter_to c_is_letter_to k_is_letter_to
  have B_is_letter_to := F_is_letter_to.binds (ps := ["columns", "value", "most"]) fun _ _ _ _ _ _ us hl => match us, hl with | [_, _, _], _ => rfl
  have m_is_letter_to := PySem.W.mg_of X G a_is_letter_to
  have F_is_word_to := fun_mk (st := s_is_word_to) l_is_word_to c_is_word_to k_is_word_to
  have B_is_word_to := F_is_word_to.binds (ps := ["columns", "value", "most"]) fun _ _ _ _ _ _ us hl => match us, hl with | [_, _, _], _ => rfl
  have m_is_word_to := PySem.W.mg_of X G a_is_word_to
  have F_is_word := fun_mk (st := s_is_word) l_is_word c_is_word k_is_word
  have B_is_word := F_is_word.binds (ps := ["columns", "value"]) fun _ _ _ _ _ _ us hl => match us, hl with | [_, _], _ => rfl
  have m_is_word := PySem.W.mg_of X G a_is_word
  have F_need_word := fun_mk (st := s_need_word) l_need_word c_need_word k_need_word
  have B_need_word := F_need_word.binds (ps := ["columns", "word"]) fun _ _ _ _ _ _ us hl => match us, hl with | [_, _], _ => rfl
  have m_need_word := PySem.W.mg_of X G a_need_word
  have F_worth_at := fun_mk (st := s_worth_at) l_worth_at c_worth_at k_worth_at
  have B_worth_at := F_worth_at.binds (ps := ["letter", "row"]) fun _ _ _ _ _ _ us hl => match us, hl with | [_, _], _ => rfl
  have m_worth_at := PySem.W.mg_of X G a_worth_at
  have F_longer_sums := fun_mk (st := s_longer_sums) l_longer_sums c_longer_sums k_longer_sums
  have B_longer_sums := F_longer_sums.binds (ps := ["sums", "worth"]) fun _ _ _ _ _ _ us hl => match us, hl with | [_, _], _ => rfl
  have m_longer_sums := PySem.W.mg_of X G a_longer_sums
  have F_sums_of := fun_mk (st := s_sums_of) l_sums_of c_sums_of k_sums_of
  have B_sums_of := F_sums_of.binds (ps := ["worths", "height"]) fun _ _ _ _ _ _ us hl => match us, hl with | [_, _], _ => rfl
  have m_sums_of := PySem.W.mg_of X G a_sums_of
  have F_worths_at := fun_mk (st := s_worths_at) l_worths_at c_worths_at k_worths_at
  have B_worths_at := F_worths_at.binds (ps := ["letter", "rows"]) fun _ _ _ _ _ _ us hl => match us, hl with | [_, _], _ => rfl
  have m_worths_at := PySem.W.mg_of X G a_worths_at
  have F_sums_ahead := fun_mk (st := s_sums_ahead) l_sums_ahead c_sums_ahead k_sums_ahead
  have B_sums_ahead := F_sums_ahead.binds (ps := ["table", "word"]) fun _ _ _ _ _ _ us hl => match us, hl with | [_, _], _ => rfl
  have m_sums_ahead := PySem.W.mg_of X G a_sums_ahead
  have F_word_sum := fun_mk (st := s_word_sum) l_word_sum c_word_sum k_word_sum
  have B_word_sum := F_word_sum.binds (ps := ["table", "word"]) fun _ _ _ _ _ _ us hl => match us, hl with | [_, _], _ => rfl
  have m_word_sum := PySem.W.mg_of X G a_word_sum
  have F_sums_behind := fun_mk (st := s_sums_behind) l_sums_behind c_sums_behind k_sums_behind
  have B_sums_behind := F_sums_behind.binds (ps := ["table", "word"]) fun _ _ _ _ _ _ us hl => match us, hl with | [_, _], _ => rfl
  have m_sums_behind := PySem.W.mg_of X G a_sums_behind
  have F_cuts := fun_mk (st := s_cuts) l_cuts c_cuts k_cuts
  have B_cuts := F_cuts.binds (ps := ["columns", "word"]) fun _ _ _ _ _ _ us hl => match us, hl with | [_, _], _ => rfl
  have m_cuts := PySem.W.mg_of X G a_cuts
  have F_turned_word := fun_mk (st := s_turned_word) l_turned_word c_turned_word k_turned_word
  have B_turned_word := F_turned_word.binds (ps := ["columns", "word"]) fun _ _ _ _ _ _ us hl => match us, hl with | [_, _], _ => rfl
  have m_turned_word := PySem.W.mg_of X G a_turned_word
  have F_Ldivisor := fun_mk (st := s__law_divisor) l_Ldivisor c_Ldivisor k_Ldivisor
  have B_Ldivisor := F_Ldivisor.binds (ps := ["_law_one", "_law_other"]) fun _ _ _ _ _ _ us hl => match us, hl with | [_, _], _ => rfl
  have m_Ldivisor := PySem.W.mg_of X G a_Ldivisor
  have F_Llow := fun_mk (st := s__law_low) l_Llow c_Llow k_Llow
  have B_Llow := F_Llow.binds (ps := ["_law_top", "_law_bottom"]) fun _ _ _ _ _ _ us hl => match us, hl with | [_, _], _ => rfl
  have m_Llow := PySem.W.mg_of X G a_Llow
  have F_Lplus := fun_mk (st := s__law_plus) l_Lplus c_Lplus k_Lplus
  have B_Lplus := F_Lplus.binds (ps := ["_law_one", "_law_other"]) fun _ _ _ _ _ _ us hl => match us, hl with | [_, _], _ => rfl
  have m_Lplus := PySem.W.mg_of X G a_Lplus
  have F_Ltimes := fun_mk (st := s__law_times) l_Ltimes c_Ltimes k_Ltimes
  have B_Ltimes := F_Ltimes.binds (ps := ["_law_one", "_law_other"]) fun _ _ _ _ _ _ us hl => match us, hl with | [_, _], _ => rfl
  have m_Ltimes := PySem.W.mg_of X G a_Ltimes
  have F_Lratio := fun_mk (st := s__law_ratio) l_Lratio c_Lratio k_Lratio
  have B_Lratio := F_Lratio.binds (ps := ["_law_number_here"]) fun _ _ _ _ _ _ us hl => match us, hl with | [_], _ => rfl
  have m_Lratio := PySem.W.mg_of X G a_Lratio
  have F_Lnumber := fun_mk (st := s__law_number) l_Lnumber c_Lnumber k_Lnumber
  have B_Lnumber := F_Lnumber.binds (ps := ["_law_pot_here"]) fun _ _ _ _ _ _ us hl => match us, hl with | [_], _ => rfl
  have m_Lnumber := PySem.W.mg_of X G a_Lnumber
  have F_Lrows := fun_mk (st := s__law_rows) l_Lrows c_Lrows k_Lrows
  have B_Lrows := F_Lrows.binds (ps := ["_law_pot_here", "_law_columns", "_law_many"]) fun _ _ _ _ _ _ us hl => match us, hl with | [_, _, _], _ => rfl
  have m_Lrows := PySem.W.mg_of X G a_Lrows
  have F_Lpassed := fun_mk (st := s__law_passed) l_Lpassed c_Lpassed k_Lpassed
  have B_Lpassed := F_Lpassed.binds (ps := ["_law_pot_here", "_law_row"]) fun _ _ _ _ _ _ us hl => match us, hl with | [_, _], _ => rfl
  have m_Lpassed := PySem.W.mg_of X G a_Lpassed
  have F_Ltable := fun_mk (st := s__law_table) l_Ltable c_Ltable k_Ltable
  have B_Ltable := F_Ltable.binds (ps := ["_law_pot_here", "_law_columns", "_law_rows_here"]) fun _ _ _ _ _ _ us hl => match us, hl with | [_, _, _], _ => rfl
  have m_Ltable := PySem.W.mg_of X G a_Ltable
  have F_Lletter := fun_mk (st := s__law_letter) l_Lletter c_Lletter k_Lletter
  have B_Lletter := F_Lletter.binds (ps := ["_law_pot_here", "_law_columns", "_law_most"]) fun _ _ _ _ _ _ us hl => match us, hl with | [_, _, _], _ => rfl
  have m_Lletter := PySem.W.mg_of X G a_Lletter
  have F_Lword := fun_mk (st := s__law_word) l_Lword c_Lword k_Lword
  have B_Lword := F_Lword.binds (ps := ["_law_pot_here", "_law_columns", "_law_many"]) fun _ _ _ _ _ _ us hl => match us, hl with | [_, _, _], _ => rfl
  have m_Lword := PySem.W.mg_of X G a_Lword
  have F_Lworth := fun_mk (st := s__law_worth) l_Lworth c_Lworth k_Lworth
  have B_Lworth := F_Lworth.binds (ps := ["_law_letter_here", "_law_row"]) fun _ _ _ _ _ _ us hl => match us, hl with | [_, _], _ => rfl
  have m_Lworth := PySem.W.mg_of X G a_Lworth
  have F_Lchoices := fun_mk (st := s__law_choices) l_Lchoices c_Lchoices k_Lchoices
  have B_Lchoices := F_Lchoices.binds (ps := ["_law_below", "_law_many"]) fun _ _ _ _ _ _ us hl => match us, hl with | [_, _], _ => rfl
  have m_Lchoices := PySem.W.mg_of X G a_Lchoices
  have F_Lsum := fun_mk (st := s__law_sum) l_Lsum c_Lsum k_Lsum
  have B_Lsum := F_Lsum.binds (ps := ["_law_rows_here", "_law_word_here"]) fun _ _ _ _ _ _ us hl => match us, hl with | [_, _], _ => rfl
  have m_Lsum := PySem.W.mg_of X G a_Lsum
  have F_Lone_right := fun_mk (st := s__law_one_right) l_Lone_right c_Lone_right k_Lone_right
  have B_Lone_right := F_Lone_right.binds (ps := ["_law_pot_here", "_law_columns", "_law_rows_here", "_law_word_here"]) fun _ _ _ _ _ _ us hl => match us, hl with | [_, _, _, _], _ => rfl
  have m_Lone_right := PySem.W.mg_of X G a_Lone_right
  have F_Lright := fun_mk (st := s__law_right) l_Lright c_Lright k_Lright
  have B_Lright := F_Lright.binds (ps := ["_law_pot_here"]) fun _ _ _ _ _ _ us hl => match us, hl with | [_], _ => rfl
  have m_Lright := PySem.W.mg_of X G a_Lright
  have F_Ldraw := fun_mk (st := s_draw) l_Ldraw c_Ldraw k_Ldraw
  have B_Ldraw := F_Ldraw.binds (ps := ["_law_pot_here", "_law_many"]) fun _ _ _ _ _ _ us hl => match us, hl with | [_, _], _ => rfl
  have m_Ldraw := PySem.W.mg_of X G a_Ldraw
  have F_Lpot := fun_mk (st := s_pot) l_Lpot c_Lpot k_Lpot
  have B_Lpot := F_Lpot.binds (ps := ["_law_script", "_law_k"]) fun _ _ _ _ _ _ us hl => match us, hl with | [_, _], _ => rfl
  have m_Lpot := PySem.W.mg_of X G a_Lpot
  have F_isInt := fun_mk (st := s_isInt) l_isInt c_isInt k_isInt
  have B_isInt := F_isInt.binds (ps := ["value"]) fun _ _ _ _ _ _ us hl => match us, hl with | [_], _ => rfl
  have m_isInt := PySem.W.mg_of X G a_isInt
  have F_isNum := fun_mk (st := s_isNum) l_isNum c_isNum k_isNum
  have B_isNum := F_isNum.binds (ps := ["value"]) fun _ _ _ _ _ _ us hl => match us, hl with | [_], _ => rfl
  have m_isNum := PySem.W.mg_of X G a_isNum
  have F_need := fun_mk (st := s_need) l_need c_need k_need
  have B_need := F_need.binds (ps := ["number"]) fun _ _ _ _ _ _ us hl => match us, hl with | [_], _ => rfl
  have m_need := PySem.W.mg_of X G a_need
  have F_tb := fun_mk (st := s_tb) l_tb c_tb k_tb
  have B_tb := F_tb.binds (ps := ["number"]) fun _ _ _ _ _ _ us hl => match us, hl with | [_], _ => rfl
  have m_tb := PySem.W.mg_of X G a_tb
  have F_law := fun_mk (st := s_law) l_law c_law k_law
  have m_law := PySem.W.mg_of X G a_law
  have F_Rtop := fun_mk (st := s_Rtop) l_Rtop c_Rtop k_Rtop
  have B_Rtop := F_Rtop.binds (ps := ["self"]) fun _ _ _ _ _ _ us hl => match us, hl with | [_], _ => rfl
  have P_Rtop : PropOf K C "top" p_Rtop f_Rtop := ⟨a_Rtop, gg_Rtop, t_Rtop, _, e_Rtop⟩
  have F_Rbottom := fun_mk (st := s_Rbottom) l_Rbottom c_Rbottom k_Rbottom
  have B_Rbottom := F_Rbottom.binds (ps := ["self"]) fun _ _ _ _ _ _ us hl => match us, hl with | [_], _ => rfl
  have P_Rbottom : PropOf K C "bottom" p_Rbottom f_Rbottom := ⟨a_Rbottom, gg_Rbottom, t_Rbottom, _, e_Rbottom⟩
  have F_Radd := fun_mk (st := s_Radd) l_Radd c_Radd k_Radd
  have B_Radd := F_Radd.binds (ps := ["self", "other"]) fun _ _ _ _ _ _ us hl => match us, hl with | [_, _], _ => rfl
  have F_Rradd := fun_mk (st := s_Rradd) l_Rradd c_Rradd k_Rradd
  have B_Rradd := F_Rradd.binds (ps := ["self", "other"]) fun _ _ _ _ _ _ us hl => match us, hl with | [_, _], _ => rfl
  have F_Rmul := fun_mk (st := s_Rmul) l_Rmul c_Rmul k_Rmul
  have B_Rmul := F_Rmul.binds (ps := ["self", "other"]) fun _ _ _ _ _ _ us hl => match us, hl with | [_, _], _ => rfl
  have F_Rrmul := fun_mk (st := s_Rrmul) l_Rrmul c_Rrmul k_Rrmul
  have B_Rrmul := F_Rrmul.binds (ps := ["self", "other"]) fun _ _ _ _ _ _ us hl => match us, hl with | [_, _], _ => rfl
  have F_Req := fun_mk (st := s_Req) l_Req c_Req k_Req
  have B_Req := F_Req.binds (ps := ["self", "other"]) fun _ _ _ _ _ _ us hl => match us, hl with | [_, _], _ => rfl
  have F_Rrepr := fun_mk (st := s_Rrepr) l_Rrepr c_Rrepr k_Rrepr
  have B_Rrepr := F_Rrepr.binds (ps := ["self"]) fun _ _ _ _ _ _ us hl => match us, hl with | [_], _ => rfl
  have mC := PySem.W.mg_of X G aC
  have y_abs := PySem.W.mg_none_of X G z_abs
  have y_all := PySem.W.mg_none_of X G z_all
  have y_bool := PySem.W.mg_none_of X G z_bool
  have y_divmod := PySem.W.mg_none_of X G z_divmod
  have y_enumerate := PySem.W.mg_none_of X G z_enumerate
  have y_int := PySem.W.mg_none_of X G z_int
  have y_isinstance := PySem.W.mg_none_of X G z_isinstance
  have y_len := PySem.W.mg_none_of X G z_len
  have y_list := PySem.W.mg_none_of X G z_list
  have y_max := PySem.W.mg_none_of X G z_max
  have y_range := PySem.W.mg_none_of X G z_range
  have y_tuple := PySem.W.mg_none_of X G z_tuple
  have y_zip := PySem.W.mg_none_of X G z_zip
  have F_Rinit : FunD K "__init__" "Ratio.__init__" (defArgs s_Rinit) (defBody s_Rinit) (defScope s_Rinit) [.int 1] [] f_Rinit _ := ⟨⟨oc_Rinit, od_Rinit, .ref T1, kV_Rinit, dc_Rinit, pm_Rinit, an_Rinit, cd_Rinit, ct_Rinit, sl_Rinit, rfl, l_Rinit, c_Rinit, .inr ⟨List.cons_ne_nil _ _, T1, _, _, _, rfl, lT, rfl, .cons ⟨tk1, rfl⟩ .nil⟩, .inl rfl⟩, k_Rinit⟩
  obtain ⟨ds2, v2, BI2⟩ := F_Rinit.binds1 (ps := ["self", "top", "bottom"]) 3 1 (List.cons_ne_nil _ _) rfl fun T kV doc pm an cdv ct us its h1 h2 => match us, its, h1, h2 with | [_, _, _], [_], _, _ => ⟨_, rfl, rfl⟩
  cases v2
  obtain ⟨ds1, v1, BI1⟩ := F_Rinit.binds1 (ps := ["self", "top", "bottom"]) 2 0 (List.cons_ne_nil _ _) rfl fun T kV doc pm an cdv ct us its h1 h2 => match us, its, h1, h2 with | [_, _], [_], _, _ => ⟨_, rfl, rfl⟩
  have cl : Cls K C := ⟨pg, hd, po, sa⟩
  have ct0 : ClsTy K C := ⟨fun H a dx fs e => .ins e cl clA clN clT clM, fun t => by cases t <;> first | exact kit_ref su_int (by decide +kernel) | exact kit_ref su_bool (by decide +kernel) | exact kit_ref su_str (by decide +kernel) | exact kit_ref su_tuple (by decide +kernel) | exact kit_ref su_list (by decide +kernel) | exact kit_ref su_NoneType (by decide +kernel),
    fun t => by cases t <;> first | exact kit_of us_int isC tyC | exact kit_of us_bool isC tyC | exact kit_of us_str isC tyC | exact kit_of us_tuple isC tyC | exact kit_of us_list isC tyC | exact kit_of us_NoneType isC tyC⟩
  have at_ : ClsAt K "Ratio" C := aC
  have kn : KnownC K ["Ratio"] := fun c hc => by
    have e : c = "Ratio" := by simpa using hc
    subst e
    exact ⟨C, at_, ct0⟩
  have M : Mk K C f_Rinit := ⟨mk, a_Rinit, i_Rinit, kC⟩
  have mC_Table := PySem.W.mg_of X G aC_Table
  have F_Table_init := fun_mk (st := s_Table_init) l_Table_init c_Table_init k_Table_init
  have B_Table_init := F_Table_init.binds (ps := ["self", "columns", "rows"]) fun _ _ _ _ _ _ us hl => match us, hl with | [_, _, _], _ => rfl
  have FD_Table_init : FunD K "__init__" "Table.__init__" (defArgs s_Table_init) (defBody s_Table_init) (defScope s_Table_init) [] [] f_Table_init _ := ⟨⟨oc_Table_init, od_Table_init, .none, kV_Table_init, dc_Table_init, pm_Table_init, an_Table_init, cd_Table_init, ct_Table_init, sl_Table_init, rfl, l_Table_init, c_Table_init, .inl ⟨rfl, rfl⟩, .inl rfl⟩, k_Table_init⟩
  have F_Table_columns := fun_mk (st := s_Table_columns) l_Table_columns c_Table_columns k_Table_columns
  have B_Table_columns := F_Table_columns.binds (ps := ["self"]) fun _ _ _ _ _ _ us hl => match us, hl with | [_], _ => rfl
  have P_Table_columns : PropOf K CTable "columns" p_Table_columns f_Table_columns := ⟨a_Table_columns, gg_Table_columns, t_Table_columns, _, e_Table_columns⟩
  have F_Table_height := fun_mk (st := s_Table_height) l_Table_height c_Table_height k_Table_height
  have B_Table_height := F_Table_height.binds (ps := ["self"]) fun _ _ _ _ _ _ us hl => match us, hl with | [_], _ => rfl
  have P_Table_height : PropOf K CTable "height" p_Table_height f_Table_height := ⟨a_Table_height, gg_Table_height, t_Table_height, _, e_Table_height⟩
  have F_Table_rows := fun_mk (st := s_Table_rows) l_Table_rows c_Table_rows k_Table_rows
  have B_Table_rows := F_Table_rows.binds (ps := ["self"]) fun _ _ _ _ _ _ us hl => match us, hl with | [_], _ => rfl
  have cl_Table : Cls K CTable := ⟨pg_Table, hd_Table, po_Table, sa_Table⟩
  have ct_Table : ClsTy K CTable := ⟨fun H a dx fs e => .ins e cl_Table clA_Table clN clT clM_Table, fun t => by cases t <;> first | exact kit_ref su_int_Table (by decide +kernel) | exact kit_ref su_bool_Table (by decide +kernel) | exact kit_ref su_str_Table (by decide +kernel) | exact kit_ref su_tuple_Table (by decide +kernel) | exact kit_ref su_list_Table (by decide +kernel) | exact kit_ref su_NoneType_Table (by decide +kernel),
    fun t => by cases t <;> first | exact kit_of us_int_Table isC_Table tyC_Table | exact kit_of us_bool_Table isC_Table tyC_Table | exact kit_of us_str_Table isC_Table tyC_Table | exact kit_of us_tuple_Table isC_Table tyC_Table | exact kit_of us_list_Table isC_Table tyC_Table | exact kit_of us_NoneType_Table isC_Table tyC_Table⟩
  have at_Table : ClsAt K "Table" CTable := aC_Table
  have M_Table : Mk K CTable f_Table_init := ⟨mk_Table, a_Table_init, i_Table_init, kC_Table⟩
  have ne_Table : C ≠ CTable := fun z => by
    have y := a_Table_columns
    rw [← z, nc_Table] at y
    cases y
  have kn2 : KnownC K ["Ratio", "Table"] := fun c hc => by
    have e : c = "Ratio" ∨ c = "Table" := by simpa using hc
    rcases e with rfl | rfl
    · exact ⟨C, at_, ct0⟩
    · exact ⟨CTable, at_Table, ct_Table⟩
  have df_Ratio : DfP K ["Ratio", "Table"] "Ratio" := fun c C1 C0 hc hne h1 h0 => by
    have e : c = "Ratio" ∨ c = "Table" := by simpa using hc
    rcases e with rfl | rfl
    · exact absurd hne (by decide +kernel)
    · rw [ClsAt.one at_Table h1, ClsAt.one at_ h0]
      exact kit_rr (Ne.symm ne_Table) rr_Table_Ratio isC tyC
  have df_Table : DfP K ["Ratio", "Table"] "Table" := fun c C1 C0 hc hne h1 h0 => by
    have e : c = "Ratio" ∨ c = "Table" := by simpa using hc
    rcases e with rfl | rfl
    · rw [ClsAt.one at_ h1, ClsAt.one at_Table h0]
      exact kit_rr ne_Table rr_Ratio_Table isC_Table tyC_Table
    · exact absurd hne (by decide +kernel)
  have O_Radd : OwnOp K C .Add f_Radd := ⟨sf, (by rw [show PySem.dunder Operator.Add.info.2 = ("__add__" : Str) from by decide +kernel]; exact a_Radd), i_Radd, ⟨_, (by rw [show PySem.dunderR Operator.Add.info.2 = ("__radd__" : Str) from by decide +kernel]; exact a_Rradd), .inr ⟨_, rfl⟩⟩, ⟨_, _, (by rw [show PySem.dunder Operator.Add.info.2 = ("__add__" : Str) from by decide +kernel]; exact no_add), (by rw [show PySem.dunderR Operator.Add.info.2 = ("__radd__" : Str) from by decide +kernel]; exact nr_add)⟩, us_int⟩
  have O_Rradd : BackOp K C .Add f_Rradd := ⟨sf, ⟨_, (by rw [show PySem.dunder Operator.Add.info.2 = ("__add__" : Str) from by decide +kernel]; exact a_Radd)⟩, (by rw [show PySem.dunderR Operator.Add.info.2 = ("__radd__" : Str) from by decide +kernel]; exact a_Rradd), i_Rradd, ⟨_, _, (by rw [show PySem.dunder Operator.Add.info.2 = ("__add__" : Str) from by decide +kernel]; exact no_add), (by rw [show PySem.dunderR Operator.Add.info.2 = ("__radd__" : Str) from by decide +kernel]; exact nr_add), (by rw [Bool.or_eq_true]; exact .inl (by rw [sq_add]; rfl))⟩, su_int⟩
  have O_Rmul : OwnOp K C .Mult f_Rmul := ⟨sf, (by rw [show PySem.dunder Operator.Mult.info.2 = ("__mul__" : Str) from by decide +kernel]; exact a_Rmul), i_Rmul, ⟨_, (by rw [show PySem.dunderR Operator.Mult.info.2 = ("__rmul__" : Str) from by decide +kernel]; exact a_Rrmul), .inr ⟨_, rfl⟩⟩, ⟨_, _, (by rw [show PySem.dunder Operator.Mult.info.2 = ("__mul__" : Str) from by decide +kernel]; exact no_mul), (by rw [show PySem.dunderR Operator.Mult.info.2 = ("__rmul__" : Str) from by decide +kernel]; exact nr_mul)⟩, us_int⟩
  have O_Rrmul : BackOp K C .Mult f_Rrmul := ⟨sf, ⟨_, (by rw [show PySem.dunder Operator.Mult.info.2 = ("__mul__" : Str) from by decide +kernel]; exact a_Rmul)⟩, (by rw [show PySem.dunderR Operator.Mult.info.2 = ("__rmul__" : Str) from by decide +kernel]; exact a_Rrmul), i_Rrmul, ⟨_, _, (by rw [show PySem.dunder Operator.Mult.info.2 = ("__mul__" : Str) from by decide +kernel]; exact no_mul), (by rw [show PySem.dunderR Operator.Mult.info.2 = ("__rmul__" : Str) from by decide +kernel]; exact nr_mul), (by rw [Bool.or_eq_true]; exact .inl (by rw [sq_mul]; rfl))⟩, su_int⟩
  have O_Req : CmpOwn K C .Eq f_Req := ⟨(by rw [show (PySem.cmpInfo CmpOp.Eq).2.1 = ("__eq__" : Str) from by decide +kernel]; exact a_Req), i_Req, nf1, nf2⟩
  refine ⟨PySem.W.fnOf "law" "law" (defArgs s_law) (defBody s_law) (defScope s_law) .none kV_law dc_law pm_law an_law cd_law ct_law, fun s v => .of_eq rfl, fun base _ _ => ?_⟩
  have G_isInt := g_isInt (P := l.prog) (w := w) (base := base) F_isInt kn y_isinstance y_int y_bool
  have G_isNum := g_isNum (P := l.prog) (w := w) (base := base) F_isNum kn at_ ct0 y_isinstance mC m_isInt k_isInt G_isInt B_isInt
  have G_need := g_need (P := l.prog) (w := w) (base := base) F_need m_isNum k_isNum G_isNum B_isNum
  have G_Rinit := g_Rinit (P := l.prog) (w := w) (base := base) F_Rinit cl at_ nt nb m_isInt k_isInt (G_isInt.imp (spD_imp fun ds R h => by
    split at h
    · rw [isInt_int]; exact h
    · exact h.elim)) B_isInt (PySem.W.mg_of X G gcd)
  have R0 : RH l.prog w K mg base (fun _ => .fail) C f_Rinit f_tb _ _ := ⟨M, cl, at_, nt, nb, mC, m_tb, k_tb, G_Rinit, BI2, fail_ok, B_tb⟩
  have G_Rtop := g_Rtop F_Rtop R0
  have G_Rbottom := g_Rbottom F_Rbottom R0
  have G_tb := g_tb (P := l.prog) (w := w) (base := base) F_tb kn at_ ct0 cl y_isinstance mC m_need k_need G_need B_need P_Rtop G_Rtop B_Rtop P_Rbottom G_Rbottom B_Rbottom
  have R : RH l.prog w K mg base Pd.f_tb C f_Rinit f_tb _ _ := ⟨M, cl, at_, nt, nb, mC, m_tb, k_tb, G_Rinit, BI2, G_tb, B_tb⟩
  have G_Rmul := g_Rmul F_Rmul R
  have G_Radd := g_Radd' F_Radd R
  have G_Rrepr := g_Rrepr F_Rrepr R
  have G_Req := g_Req F_Req R kn ct0 y_isinstance
  have G_Rrmul := g_Rrmul F_Rrmul at_ O_Rmul G_Rmul B_Rmul
  have G_Rradd := g_Rradd F_Rradd at_ O_Radd G_Radd B_Radd
  have p_is_integer : Pm l.prog w K mg base "is_integer" 1 1 ["value"] Pd.f_is_integer := ⟨_, _, m_isInt, k_isInt, G_isInt, B_isInt⟩
  have p_is_number : Pm l.prog w K mg base "is_number" 2 1 ["value"] Pd.f_is_number := ⟨_, _, m_isNum, k_isNum, G_isNum, B_isNum⟩
  have Sm : SmP l.prog w K mg base 1 eRat := SmP.of ⟨C, _, _, _, at_, O_Req, G_Req, B_Req⟩ (fun C' h => by
    have e := ClsAt.one at_ h
    subst e
    exact ⟨neC, clM⟩)
  have W0 : Wd0 l.prog w K mg base := { mk1 := ⟨C, _, _, _, [.int 1], _, M, at_, mC, G_Rinit, BI1, v1, fun _ _ => .cons (.int 1) .nil⟩, mk2 := ⟨C, _, _, _, [], [], M, at_, mC, G_Rinit, BI2, .nil, fun _ _ => .nil⟩, kn := kn2, tx := TxP.of ⟨C, _, _, _, at_, ⟨a_Rrepr, i_Rrepr⟩, G_Rrepr, B_Rrepr⟩, sm := Sm, p_top := ⟨C, _, _, _, _, at_, cl, P_Rtop, G_Rtop, B_Rtop⟩, p_bottom := ⟨C, _, _, _, _, at_, cl, P_Rbottom, G_Rbottom, B_Rbottom⟩, mul := ⟨C, _, _, _, at_, O_Rmul, G_Rmul, B_Rmul⟩, rmul := ⟨C, _, _, _, at_, O_Rrmul, G_Rrmul, B_Rrmul⟩, add := ⟨C, _, _, _, at_, O_Radd, G_Radd, B_Radd⟩, radd := ⟨C, _, _, _, at_, O_Rradd, G_Rradd, B_Rradd⟩, ic_Ratio := ⟨C, at_, ct0, mC⟩, ic_Table := ⟨CTable, at_Table, ct_Table, mC_Table⟩, df_Ratio := df_Ratio, df_Table := df_Table, at_Table_columns := ⟨CTable, at_Table, cl_Table, no_Table_columns⟩, at_Table_rows := ⟨CTable, at_Table, cl_Table, no_Table_rows⟩, z_abs := y_abs, z_all := y_all, z_enumerate := y_enumerate, z_int := y_int, z_isinstance := y_isinstance, z_len := y_len, z_list := y_list, z_range := y_range, z_tuple := y_tuple, z_zip := y_zip, c_MOST_COLUMNS := ⟨_, PySem.W.mg_of X G v_MOST_COLUMNS⟩, c_MOST_LETTERS := ⟨_, PySem.W.mg_of X G v_MOST_LETTERS⟩, c_MOST_POWER := ⟨_, PySem.W.mg_of X G v_MOST_POWER⟩, c_MOST_ROWS := ⟨_, PySem.W.mg_of X G v_MOST_ROWS⟩ }
  have G_Ldraw := g_draw (P := l.prog) (w := w) (base := base) F_Ldraw y_divmod y_int
  have G_Lpot := g_pot (P := l.prog) (w := w) (base := base) F_Lpot y_abs y_len y_max y_int
  have p_Ldraw : Pm l.prog w K mg base "_law_draw" 1 2 ["_law_pot_here", "_law_many"] Pd.f__law_draw := ⟨_, _, m_Ldraw, k_Ldraw, G_Ldraw, B_Ldraw⟩
  have G_is_count := g_is_count (P := l.prog) (w := w) (base := base) F_is_count W0 p_is_integer
  have p_is_count : Pm l.prog w K mg base "is_count" 2 1 ["value"] Pd.f_is_count := ⟨_, _, m_is_count, k_is_count, G_is_count, B_is_count⟩
  have G_is_count_to := g_is_count_to (P := l.prog) (w := w) (base := base) F_is_count_to W0 p_is_count
  have p_is_count_to : Pm l.prog w K mg base "is_count_to" 3 2 ["value", "most"] Pd.f_is_count_to := ⟨_, _, m_is_count_to, k_is_count_to, G_is_count_to, B_is_count_to⟩
  have G_is_list := g_is_list (P := l.prog) (w := w) (base := base) F_is_list W0 
  have p_is_list : Pm l.prog w K mg base "is_list" 1 1 ["value"] Pd.f_is_list := ⟨_, _, m_is_list, k_is_list, G_is_list, B_is_list⟩
  have G_need_columns := g_need_columns (P := l.prog) (w := w) (base := base) F_need_columns W0 p_is_count_to
  have p_need_columns : Pm l.prog w K mg base "need_columns" 4 1 ["columns"] Pd.f_need_columns := ⟨_, _, m_need_columns, k_need_columns, G_need_columns, B_need_columns⟩
  have G_as_ratio := g_as_ratio (P := l.prog) (w := w) (base := base) F_as_ratio W0 
  have p_as_ratio : Pm l.prog w K mg base "as_ratio" 4 1 ["number"] Pd.f_as_ratio := ⟨_, _, m_as_ratio, k_as_ratio, G_as_ratio, B_as_ratio⟩
  have G_are_numbers := g_are_numbers (P := l.prog) (w := w) (base := base) F_are_numbers W0 p_is_list p_is_number
  have p_are_numbers : Pm l.prog w K mg base "are_numbers" 3 2 ["value", "many"] Pd.f_are_numbers := ⟨_, _, m_are_numbers, k_are_numbers, G_are_numbers, B_are_numbers⟩
  have G_are_rows := g_are_rows (P := l.prog) (w := w) (base := base) F_are_rows W0 p_are_numbers p_is_list
  have p_are_rows : Pm l.prog w K mg base "are_rows" 4 2 ["columns", "value"] Pd.f_are_rows := ⟨_, _, m_are_rows, k_are_rows, G_are_rows, B_are_rows⟩
  have G_Table_init := g_Table_init (P := l.prog) (w := w) (base := base) FD_Table_init cl_Table at_Table W0 p_are_rows p_as_ratio p_need_columns
  have G_Table_columns := g_Table_columns (P := l.prog) (w := w) (base := base) F_Table_columns W0 
  have G_Table_height := g_Table_height (P := l.prog) (w := w) (base := base) F_Table_height W0 
  have G_Table_rows := g_Table_rows (P := l.prog) (w := w) (base := base) F_Table_rows W0 
  have W : Wd l.prog w K mg base := { toWd0 := W0, mkTable := ⟨CTable, _, _, _, [], [], M_Table, at_Table, mC_Table, G_Table_init.mono (by decide), B_Table_init, .nil, fun _ _ => .nil⟩, p_columns := ⟨CTable, _, _, _, _, at_Table, cl_Table, P_Table_columns, G_Table_columns.mono (by decide), B_Table_columns⟩, p_height := ⟨CTable, _, _, _, _, at_Table, cl_Table, P_Table_height, G_Table_height.mono (by decide), B_Table_height⟩, m_rows := ⟨CTable, _, _, at_Table, cl_Table, ⟨a_Table_rows, i_Table_rows, k_Table_rows⟩, (G_Table_rows.mono (by decide)).imp spR_of, B_Table_rows⟩ }
  have G_need_like_columns := g_need_like_columns (P := l.prog) (w := w) (base := base) F_need_like_columns W 
  have p_need_like_columns : Pm l.prog w K mg base "need_like_columns" 3 2 ["first", "second"] Pd.f_need_like_columns := ⟨_, _, m_need_like_columns, k_need_like_columns, G_need_like_columns, B_need_like_columns⟩
  have G_need_table := g_need_table (P := l.prog) (w := w) (base := base) F_need_table W 
  have p_need_table : Pm l.prog w K mg base "need_table" 1 1 ["table"] Pd.f_need_table := ⟨_, _, m_need_table, k_need_table, G_need_table, B_need_table⟩
  have G_need_place_for_rows := g_need_place_for_rows (P := l.prog) (w := w) (base := base) F_need_place_for_rows W 
  have p_need_place_for_rows : Pm l.prog w K mg base "need_place_for_rows" 1 1 ["many"] Pd.f_need_place_for_rows := ⟨_, _, m_need_place_for_rows, k_need_place_for_rows, G_need_place_for_rows, B_need_place_for_rows⟩
  have G_joined := g_joined (P := l.prog) (w := w) (base := base) F_joined W p_need_like_columns p_need_place_for_rows p_need_table
  have p_joined : Pm l.prog w K mg base "joined" 8 2 ["table", "other"] Pd.f_joined := ⟨_, _, m_joined, k_joined, G_joined, B_joined⟩
  have G_turned := g_turned (P := l.prog) (w := w) (base := base) F_turned W p_need_table
  have p_turned : Pm l.prog w K mg base "turned" 8 1 ["table"] Pd.f_turned := ⟨_, _, m_turned, k_turned, G_turned, B_turned⟩
  have G_is_letter_to := g_is_letter_to (P := l.prog) (w := w) (base := base) F_is_letter_to W p_is_count_to
  have p_is_letter_to : Pm l.prog w K mg base "is_letter_to" 4 3 ["columns", "value", "most"] Pd.f_is_letter_to := ⟨_, _, m_is_letter_to, k_is_letter_to, G_is_letter_to, B_is_letter_to⟩
  have G_is_word_to := g_is_word_to (P := l.prog) (w := w) (base := base) F_is_word_to W p_is_letter_to
  have p_is_word_to : Pm l.prog w K mg base "is_word_to" 5 3 ["columns", "value", "most"] Pd.f_is_word_to := ⟨_, _, m_is_word_to, k_is_word_to, G_is_word_to, B_is_word_to⟩
  have G_is_word := g_is_word (P := l.prog) (w := w) (base := base) F_is_word W p_is_word_to p_need_columns
  have p_is_word : Pm l.prog w K mg base "is_word" 6 2 ["columns", "value"] Pd.f_is_word := ⟨_, _, m_is_word, k_is_word, G_is_word, B_is_word⟩
  have G_need_word := g_need_word (P := l.prog) (w := w) (base := base) F_need_word W p_is_word
  have p_need_word : Pm l.prog w K mg base "need_word" 7 2 ["columns", "word"] Pd.f_need_word := ⟨_, _, m_need_word, k_need_word, G_need_word, B_need_word⟩
  have G_worth_at := g_worth_at (P := l.prog) (w := w) (base := base) F_worth_at W 
  have p_worth_at : Pm l.prog w K mg base "worth_at" 4 2 ["letter", "row"] Pd.f_worth_at := ⟨_, _, m_worth_at, k_worth_at, G_worth_at, B_worth_at⟩
  have G_longer_sums := g_longer_sums (P := l.prog) (w := w) (base := base) F_longer_sums W 
  have p_longer_sums : PmR l.prog w K mg base "longer_sums" 7 2 ["sums", "worth"] Pd.f_longer_sums := ⟨_, _, m_longer_sums, k_longer_sums, G_longer_sums, B_longer_sums⟩
  have G_sums_of := g_sums_of (P := l.prog) (w := w) (base := base) F_sums_of W p_longer_sums
  have p_sums_of : PmR l.prog w K mg base "sums_of" 8 2 ["worths", "height"] Pd.f_sums_of := ⟨_, _, m_sums_of, k_sums_of, G_sums_of, B_sums_of⟩
  have G_worths_at := g_worths_at (P := l.prog) (w := w) (base := base) F_worths_at W p_worth_at
  have p_worths_at : PmR l.prog w K mg base "worths_at" 5 2 ["letter", "rows"] Pd.f_worths_at := ⟨_, _, m_worths_at, k_worths_at, G_worths_at, B_worths_at⟩
  have G_sums_ahead := g_sums_ahead (P := l.prog) (w := w) (base := base) F_sums_ahead W p_need_table p_need_word p_sums_of p_worths_at
  have p_sums_ahead : PmR l.prog w K mg base "sums_ahead" 9 2 ["table", "word"] Pd.f_sums_ahead := ⟨_, _, m_sums_ahead, k_sums_ahead, G_sums_ahead, B_sums_ahead⟩
  have G_word_sum := g_word_sum (P := l.prog) (w := w) (base := base) F_word_sum W p_sums_ahead
  have p_word_sum : Pm l.prog w K mg base "word_sum" 10 2 ["table", "word"] Pd.f_word_sum := ⟨_, _, m_word_sum, k_word_sum, G_word_sum, B_word_sum⟩
  have pk_word_sum : PmK l.prog w K mg base "word_sum" 10 2 ["table", "word"] ["word", "table"] [1, 0] Pd.f_word_sum := ⟨_, _, m_word_sum, k_word_sum, G_word_sum, fun s us _ hl => match us, hl with | [_, _], _ => .of_eq rfl⟩
  have G_sums_behind := g_sums_behind (P := l.prog) (w := w) (base := base) F_sums_behind W p_need_table p_need_word p_sums_of p_worths_at
  have p_sums_behind : PmR l.prog w K mg base "sums_behind" 9 2 ["table", "word"] Pd.f_sums_behind := ⟨_, _, m_sums_behind, k_sums_behind, G_sums_behind, B_sums_behind⟩
  have pk_sums_behind : PmRK l.prog w K mg base "sums_behind" 9 2 ["table", "word"] ["word", "table"] [1, 0] Pd.f_sums_behind := ⟨_, _, m_sums_behind, k_sums_behind, G_sums_behind, fun s us _ hl => match us, hl with | [_, _], _ => .of_eq rfl⟩
  have G_cuts := g_cuts (P := l.prog) (w := w) (base := base) F_cuts W p_need_word
  have p_cuts : PmR l.prog w K mg base "cuts" 8 2 ["columns", "word"] Pd.f_cuts := ⟨_, _, m_cuts, k_cuts, G_cuts, B_cuts⟩
  have pk_cuts : PmRK l.prog w K mg base "cuts" 8 2 ["columns", "word"] ["word", "columns"] [1, 0] Pd.f_cuts := ⟨_, _, m_cuts, k_cuts, G_cuts, fun s us _ hl => match us, hl with | [_, _], _ => .of_eq rfl⟩
  have G_turned_word := g_turned_word (P := l.prog) (w := w) (base := base) F_turned_word W p_need_word
  have p_turned_word : Pm l.prog w K mg base "turned_word" 8 2 ["columns", "word"] Pd.f_turned_word := ⟨_, _, m_turned_word, k_turned_word, G_turned_word, B_turned_word⟩
  have G_Ldivisor := g__law_divisor (P := l.prog) (w := w) (base := base) F_Ldivisor W 
  have p_Ldivisor : Pm l.prog w K mg base "_law_divisor" 1 2 ["_law_one", "_law_other"] Pd.f__law_divisor := ⟨_, _, m_Ldivisor, k_Ldivisor, G_Ldivisor, B_Ldivisor⟩
  have G_Llow := g__law_low (P := l.prog) (w := w) (base := base) F_Llow W p_Ldivisor
  have p_Llow : Pm l.prog w K mg base "_law_low" 2 2 ["_law_top", "_law_bottom"] Pd.f__law_low := ⟨_, _, m_Llow, k_Llow, G_Llow, B_Llow⟩
  have G_Lplus := g__law_plus (P := l.prog) (w := w) (base := base) F_Lplus W p_Llow
  have p_Lplus : Pm l.prog w K mg base "_law_plus" 3 2 ["_law_one", "_law_other"] Pd.f__law_plus := ⟨_, _, m_Lplus, k_Lplus, G_Lplus, B_Lplus⟩
  have G_Ltimes := g__law_times (P := l.prog) (w := w) (base := base) F_Ltimes W p_Llow
  have p_Ltimes : Pm l.prog w K mg base "_law_times" 3 2 ["_law_one", "_law_other"] Pd.f__law_times := ⟨_, _, m_Ltimes, k_Ltimes, G_Ltimes, B_Ltimes⟩
  have G_Lratio := g__law_ratio (P := l.prog) (w := w) (base := base) F_Lratio W 
  have p_Lratio : Pm l.prog w K mg base "_law_ratio" 4 1 ["_law_number_here"] Pd.f__law_ratio := ⟨_, _, m_Lratio, k_Lratio, G_Lratio, B_Lratio⟩
  have G_Lnumber := g__law_number (P := l.prog) (w := w) (base := base) F_Lnumber W p_Ldraw p_Llow
  have p_Lnumber : Pm l.prog w K mg base "_law_number" 3 1 ["_law_pot_here"] Pd.f__law_number := ⟨_, _, m_Lnumber, k_Lnumber, G_Lnumber, B_Lnumber⟩
  have G_Lrows := g__law_rows (P := l.prog) (w := w) (base := base) F_Lrows W p_Lnumber
  have p_Lrows : Pm l.prog w K mg base "_law_rows" 4 3 ["_law_pot_here", "_law_columns", "_law_many"] Pd.f__law_rows := ⟨_, _, m_Lrows, k_Lrows, G_Lrows, B_Lrows⟩
  have G_Lpassed := g__law_passed (P := l.prog) (w := w) (base := base) F_Lpassed W p_Ldraw p_Lratio
  have p_Lpassed : Pm l.prog w K mg base "_law_passed" 5 2 ["_law_pot_here", "_law_row"] Pd.f__law_passed := ⟨_, _, m_Lpassed, k_Lpassed, G_Lpassed, B_Lpassed⟩
  have G_Ltable := g__law_table (P := l.prog) (w := w) (base := base) F_Ltable W p_Lpassed
  have p_Ltable : Pm l.prog w K mg base "_law_table" 8 3 ["_law_pot_here", "_law_columns", "_law_rows_here"] Pd.f__law_table := ⟨_, _, m_Ltable, k_Ltable, G_Ltable, B_Ltable⟩
  have G_Lletter := g__law_letter (P := l.prog) (w := w) (base := base) F_Lletter W p_Ldraw
  have p_Lletter : Pm l.prog w K mg base "_law_letter" 2 3 ["_law_pot_here", "_law_columns", "_law_most"] Pd.f__law_letter := ⟨_, _, m_Lletter, k_Lletter, G_Lletter, B_Lletter⟩
  have G_Lword := g__law_word (P := l.prog) (w := w) (base := base) F_Lword W p_Lletter
  have p_Lword : Pm l.prog w K mg base "_law_word" 3 3 ["_law_pot_here", "_law_columns", "_law_many"] Pd.f__law_word := ⟨_, _, m_Lword, k_Lword, G_Lword, B_Lword⟩
  have G_Lworth := g__law_worth (P := l.prog) (w := w) (base := base) F_Lworth W p_Ltimes
  have p_Lworth : Pm l.prog w K mg base "_law_worth" 4 2 ["_law_letter_here", "_law_row"] Pd.f__law_worth := ⟨_, _, m_Lworth, k_Lworth, G_Lworth, B_Lworth⟩
  have G_Lchoices := g__law_choices (P := l.prog) (w := w) (base := base) F_Lchoices W 
  have p_Lchoices : Pm l.prog w K mg base "_law_choices" 1 2 ["_law_below", "_law_many"] Pd.f__law_choices := ⟨_, _, m_Lchoices, k_Lchoices, G_Lchoices, B_Lchoices⟩
  have G_Lsum := g__law_sum (P := l.prog) (w := w) (base := base) F_Lsum W p_Lchoices p_Lplus p_Ltimes p_Lworth
  have p_Lsum : Pm l.prog w K mg base "_law_sum" 5 2 ["_law_rows_here", "_law_word_here"] Pd.f__law_sum := ⟨_, _, m_Lsum, k_Lsum, G_Lsum, B_Lsum⟩
  have G_Lone_right := g__law_one_right (P := l.prog) (w := w) (base := base) F_Lone_right W p_Ldraw p_Lplus p_Lratio p_Lrows p_Lsum p_Ltable p_Ltimes p_cuts pk_cuts p_joined p_sums_ahead p_sums_behind pk_sums_behind p_turned p_turned_word p_word_sum pk_word_sum
  have p_Lone_right : Pm l.prog w K mg base "_law_one_right" 11 4 ["_law_pot_here", "_law_columns", "_law_rows_here", "_law_word_here"] Pd.f__law_one_right := ⟨_, _, m_Lone_right, k_Lone_right, G_Lone_right, B_Lone_right⟩
  have G_Lright := g__law_right (P := l.prog) (w := w) (base := base) F_Lright W p_Ldraw p_Lone_right p_Lrows p_Ltable p_Lword p_word_sum
  have p_Lright : Pm l.prog w K mg base "_law_right" 12 1 ["_law_pot_here"] Pd.f__law_right := ⟨_, _, m_Lright, k_Lright, G_Lright, B_Lright⟩
  exact g_law F_law m_Lpot k_Lpot m_Lright k_Lright G_Lpot B_Lpot G_Lright B_Lright
end Pd

open PySem PySem.W PyProof.Rows in
set_option maxHeartbeats 0 in
theorem PySem.Challenge.cw_aheadsums_k22_whole_words_over_rows_holds : PySem.Challenge.rw_aheadsums_k22_whole_words_over_rows.Holds := by
  w_on; o_law; k_head; (case hw => w_witness2)
  k_fill
  refine Pd.walkG (n := 63) (k := 13) (x := "_law_script") (l := PySem.Challenge.rw_aheadsums_k22_whole_words_over_rows) (sp := fun w => Pd.spL _) rfl (by decide) rfl ⟨rfl, by decide, by decide⟩ (fun w h Y => PySem.W.kIn_of Y) ?F fun w H a ns _ _ hS => ⟨a, ns, rfl, hS, fun _ => rfl⟩
  case F =>
    intro w mg fa h KX G hmg
    refine' Pd.all_mk KX G hmg ?aC ?a_is_count ?l_is_count ?c_is_count ?k_is_count ?a_is_count_to ?l_is_count_to ?c_is_count_to ?k_is_count_to ?a_is_list ?l_is_list ?c_is_list ?k_is_list ?a_need_columns ?l_need_columns ?c_need_columns ?k_need_columns ?a_need_like_columns ?l_need_like_columns ?c_need_like_columns ?k_need_like_columns ?a_as_ratio ?l_as_ratio ?c_as_ratio ?k_as_ratio ?a_are_numbers ?l_are_numbers ?c_are_numbers ?k_are_numbers ?a_are_rows ?l_are_rows ?c_are_rows ?k_are_rows ?a_need_table ?l_need_table ?c_need_table ?k_need_table ?a_need_place_for_rows ?l_need_place_for_rows ?c_need_place_for_rows ?k_need_place_for_rows ?a_joined ?l_joined ?c_joined ?k_joined ?a_turned ?l_turned ?c_turned ?k_turned ?a_is_letter_to ?l_is_letter_to ?c_is_letter_to ?k_is_letter_to ?a_is_word_to ?l_is_word_to ?c_is_word_to ?k_is_word_to ?a_is_word ?l_is_word ?c_is_word ?k_is_word ?a_need_word ?l_need_word ?c_need_word ?k_need_word ?a_worth_at ?l_worth_at ?c_worth_at ?k_worth_at ?a_longer_sums ?l_longer_sums ?c_longer_sums ?k_longer_sums ?a_sums_of ?l_sums_of ?c_sums_of ?k_sums_of ?a_worths_at ?l_worths_at ?c_worths_at ?k_worths_at ?a_sums_ahead ?l_sums_ahead ?c_sums_ahead ?k_sums_ahead ?a_word_sum ?l_word_sum ?c_word_sum ?k_word_sum ?a_sums_behind ?l_sums_behind ?c_sums_behind ?k_sums_behind ?a_cuts ?l_cuts ?c_cuts ?k_cuts ?a_turned_word ?l_turned_word ?c_turned_word ?k_turned_word ?a_Ldivisor ?l_Ldivisor ?c_Ldivisor ?k_Ldivisor ?a_Llow ?l_Llow ?c_Llow ?k_Llow ?a_Lplus ?l_Lplus ?c_Lplus ?k_Lplus ?a_Ltimes ?l_Ltimes ?c_Ltimes ?k_Ltimes ?a_Lratio ?l_Lratio ?c_Lratio ?k_Lratio ?a_Lnumber ?l_Lnumber ?c_Lnumber ?k_Lnumber ?a_Lrows ?l_Lrows ?c_Lrows ?k_Lrows ?a_Lpassed ?l_Lpassed ?c_Lpassed ?k_Lpassed ?a_Ltable ?l_Ltable ?c_Ltable ?k_Ltable ?a_Lletter ?l_Lletter ?c_Lletter ?k_Lletter ?a_Lword ?l_Lword ?c_Lword ?k_Lword ?a_Lworth ?l_Lworth ?c_Lworth ?k_Lworth ?a_Lchoices ?l_Lchoices ?c_Lchoices ?k_Lchoices ?a_Lsum ?l_Lsum ?c_Lsum ?k_Lsum ?a_Lone_right ?l_Lone_right ?c_Lone_right ?k_Lone_right ?a_Lright ?l_Lright ?c_Lright ?k_Lright ?a_Ldraw ?l_Ldraw ?c_Ldraw ?k_Ldraw ?a_Lpot ?l_Lpot ?c_Lpot ?k_Lpot ?a_isInt ?l_isInt ?c_isInt ?k_isInt ?a_isNum ?l_isNum ?c_isNum ?k_isNum ?a_need ?l_need ?c_need ?k_need ?a_tb ?l_tb ?c_tb ?k_tb ?a_law ?l_law ?c_law ?k_law ?a_Rinit ?i_Rinit ?l_Rinit ?c_Rinit ?k_Rinit ?lT ?a_Rtop ?gg_Rtop ?t_Rtop ?e_Rtop ?l_Rtop ?c_Rtop ?k_Rtop ?a_Rbottom ?gg_Rbottom ?t_Rbottom ?e_Rbottom ?l_Rbottom ?c_Rbottom ?k_Rbottom ?a_Radd ?i_Radd ?l_Radd ?c_Radd ?k_Radd ?a_Rradd ?i_Rradd ?l_Rradd ?c_Rradd ?k_Rradd ?a_Rmul ?i_Rmul ?l_Rmul ?c_Rmul ?k_Rmul ?a_Rrmul ?i_Rrmul ?l_Rrmul ?c_Rrmul ?k_Rrmul ?a_Req ?i_Req ?l_Req ?c_Req ?k_Req ?a_Rrepr ?i_Rrepr ?l_Rrepr ?c_Rrepr ?k_Rrepr ?mk ?kC ?pg ?hd ?po ?sa ?nt ?nb ?clA ?clN ?clT ?clM ?isC ?tyC ?gcd ?sf ?nf1 ?nf2 ?neC ?no_add ?nr_add ?sq_add ?no_mul ?nr_mul ?sq_mul ?su_int ?su_bool ?su_str ?su_tuple ?su_list ?su_NoneType ?us_int ?us_bool ?us_str ?us_tuple ?us_list ?us_NoneType ?us_dict ?aC_Table ?a_Table_init ?i_Table_init ?l_Table_init ?c_Table_init ?k_Table_init ?a_Table_columns ?gg_Table_columns ?t_Table_columns ?e_Table_columns ?l_Table_columns ?c_Table_columns ?k_Table_columns ?a_Table_height ?gg_Table_height ?t_Table_height ?e_Table_height ?l_Table_height ?c_Table_height ?k_Table_height ?a_Table_rows ?i_Table_rows ?l_Table_rows ?c_Table_rows ?k_Table_rows ?mk_Table ?kC_Table ?pg_Table ?hd_Table ?po_Table ?sa_Table ?clA_Table ?clM_Table ?isC_Table ?tyC_Table ?no_Table_columns ?no_Table_rows ?su_int_Table ?su_bool_Table ?su_str_Table ?su_tuple_Table ?su_list_Table ?su_NoneType_Table ?us_int_Table ?us_bool_Table ?us_str_Table ?us_tuple_Table ?us_list_Table ?us_NoneType_Table ?rr_Ratio_Table ?rr_Table_Ratio ?nc_Table ?z_abs ?z_all ?z_bool ?z_divmod ?z_enumerate ?z_int ?z_isinstance ?z_len ?z_list ?z_max ?z_range ?z_tuple ?z_zip ?v_MOST_COLUMNS ?v_MOST_LETTERS ?v_MOST_POWER ?v_MOST_ROWS
    (case aC => k_is)
    (case a_is_count => k_is)
    (case l_is_count => k_is)
    (case c_is_count => k_is)
    (case k_is_count => k_is)
    (case a_is_count_to => k_is)
    (case l_is_count_to => k_is)
    (case c_is_count_to => k_is)
    (case k_is_count_to => k_is)
    (case a_is_list => k_is)
    (case l_is_list => k_is)
    (case c_is_list => k_is)
    (case k_is_list => k_is)
    (case a_need_columns => k_is)
    (case l_need_columns => k_is)
    (case c_need_columns => k_is)
    (case k_need_columns => k_is)
    (case a_need_like_columns => k_is)
    (case l_need_like_columns => k_is)
    (case c_need_like_columns => k_is)
    (case k_need_like_columns => k_is)
    (case a_as_ratio => k_is)
    (case l_as_ratio => k_is)
    (case c_as_ratio => k_is)
    (case k_as_ratio => k_is)
    (case a_are_numbers => k_is)
    (case l_are_numbers => k_is)
    (case c_are_numbers => k_is)
    (case k_are_numbers => k_is)
    (case a_are_rows => k_is)
    (case l_are_rows => k_is)
    (case c_are_rows => k_is)
    (case k_are_rows => k_is)
    (case a_need_table => k_is)
    (case l_need_table => k_is)
    (case c_need_table => k_is)
    (case k_need_table => k_is)
    (case a_need_place_for_rows => k_is)
    (case l_need_place_for_rows => k_is)
    (case c_need_place_for_rows => k_is)
    (case k_need_place_for_rows => k_is)
    (case a_joined => k_is)
    (case l_joined => k_is)
    (case c_joined => k_is)
    (case k_joined => k_is)
    (case a_turned => k_is)
    (case l_turned => k_is)
    (case c_turned => k_is)
    (case k_turned => k_is)
    (case a_is_letter_to => k_is)
    (case l_is_letter_to => k_is)
    (case c_is_letter_to => k_is)
    (case k_is_letter_to => k_is)
    (case a_is_word_to => k_is)
    (case l_is_word_to => k_is)
    (case c_is_word_to => k_is)
    (case k_is_word_to => k_is)
    (case a_is_word => k_is)
    (case l_is_word => k_is)
    (case c_is_word => k_is)
    (case k_is_word => k_is)
    (case a_need_word => k_is)
    (case l_need_word => k_is)
    (case c_need_word => k_is)
    (case k_need_word => k_is)
    (case a_worth_at => k_is)
    (case l_worth_at => k_is)
    (case c_worth_at => k_is)
    (case k_worth_at => k_is)
    (case a_longer_sums => k_is)
    (case l_longer_sums => k_is)
    (case c_longer_sums => k_is)
    (case k_longer_sums => k_is)
    (case a_sums_of => k_is)
    (case l_sums_of => k_is)
    (case c_sums_of => k_is)
    (case k_sums_of => k_is)
    (case a_worths_at => k_is)
    (case l_worths_at => k_is)
    (case c_worths_at => k_is)
    (case k_worths_at => k_is)
    (case a_sums_ahead => k_is)
    (case l_sums_ahead => k_is)
    (case c_sums_ahead => k_is)
    (case k_sums_ahead => k_is)
    (case a_word_sum => k_is)
    (case l_word_sum => k_is)
    (case c_word_sum => k_is)
    (case k_word_sum => k_is)
    (case a_sums_behind => k_is)
    (case l_sums_behind => k_is)
    (case c_sums_behind => k_is)
    (case k_sums_behind => k_is)
    (case a_cuts => k_is)
    (case l_cuts => k_is)
    (case c_cuts => k_is)
    (case k_cuts => k_is)
    (case a_turned_word => k_is)
    (case l_turned_word => k_is)
    (case c_turned_word => k_is)
    (case k_turned_word => k_is)
    (case a_Ldivisor => k_is)
    (case l_Ldivisor => k_is)
    (case c_Ldivisor => k_is)
    (case k_Ldivisor => k_is)
    (case a_Llow => k_is)
    (case l_Llow => k_is)
    (case c_Llow => k_is)
    (case k_Llow => k_is)
    (case a_Lplus => k_is)
    (case l_Lplus => k_is)
    (case c_Lplus => k_is)
    (case k_Lplus => k_is)
    (case a_Ltimes => k_is)
    (case l_Ltimes => k_is)
    (case c_Ltimes => k_is)
    (case k_Ltimes => k_is)
    (case a_Lratio => k_is)
    (case l_Lratio => k_is)
    (case c_Lratio => k_is)
    (case k_Lratio => k_is)
    (case a_Lnumber => k_is)
    (case l_Lnumber => k_is)
    (case c_Lnumber => k_is)
    (case k_Lnumber => k_is)
    (case a_Lrows => k_is)
    (case l_Lrows => k_is)
    (case c_Lrows => k_is)
    (case k_Lrows => k_is)
    (case a_Lpassed => k_is)
    (case l_Lpassed => k_is)
    (case c_Lpassed => k_is)
    (case k_Lpassed => k_is)
    (case a_Ltable => k_is)
    (case l_Ltable => k_is)
    (case c_Ltable => k_is)
    (case k_Ltable => k_is)
    (case a_Lletter => k_is)
    (case l_Lletter => k_is)
    (case c_Lletter => k_is)
    (case k_Lletter => k_is)
    (case a_Lword => k_is)
    (case l_Lword => k_is)
    (case c_Lword => k_is)
    (case k_Lword => k_is)
    (case a_Lworth => k_is)
    (case l_Lworth => k_is)
    (case c_Lworth => k_is)
    (case k_Lworth => k_is)
    (case a_Lchoices => k_is)
    (case l_Lchoices => k_is)
    (case c_Lchoices => k_is)
    (case k_Lchoices => k_is)
    (case a_Lsum => k_is)
    (case l_Lsum => k_is)
    (case c_Lsum => k_is)
    (case k_Lsum => k_is)
    (case a_Lone_right => k_is)
    (case l_Lone_right => k_is)
    (case c_Lone_right => k_is)
    (case k_Lone_right => k_is)
    (case a_Lright => k_is)
    (case l_Lright => k_is)
    (case c_Lright => k_is)
    (case k_Lright => k_is)
    (case a_Ldraw => k_is)
    (case l_Ldraw => k_is)
    (case c_Ldraw => k_is)
    (case k_Ldraw => k_is)
    (case a_Lpot => k_is)
    (case l_Lpot => k_is)
    (case c_Lpot => k_is)
    (case k_Lpot => k_is)
    (case a_isInt => k_is)
    (case l_isInt => k_is)
    (case c_isInt => k_is)
    (case k_isInt => k_is)
    (case a_isNum => k_is)
    (case l_isNum => k_is)
    (case c_isNum => k_is)
    (case k_isNum => k_is)
    (case a_need => k_is)
    (case l_need => k_is)
    (case c_need => k_is)
    (case k_need => k_is)
    (case a_tb => k_is)
    (case l_tb => k_is)
    (case c_tb => k_is)
    (case k_tb => k_is)
    (case a_law => k_is)
    (case l_law => k_is)
    (case c_law => k_is)
    (case k_law => k_is)
    (case a_Rinit => k_is)
    (case i_Rinit => k_is)
    (case l_Rinit => k_is)
    (case c_Rinit => k_is)
    (case k_Rinit => k_is)
    (case lT => k_is)
    (case a_Rtop => k_is)
    (case gg_Rtop => k_is)
    (case t_Rtop => k_is)
    (case e_Rtop => k_is)
    (case l_Rtop => k_is)
    (case c_Rtop => k_is)
    (case k_Rtop => k_is)
    (case a_Rbottom => k_is)
    (case gg_Rbottom => k_is)
    (case t_Rbottom => k_is)
    (case e_Rbottom => k_is)
    (case l_Rbottom => k_is)
    (case c_Rbottom => k_is)
    (case k_Rbottom => k_is)
    (case a_Radd => k_is)
    (case i_Radd => k_is)
    (case l_Radd => k_is)
    (case c_Radd => k_is)
    (case k_Radd => k_is)
    (case a_Rradd => k_is)
    (case i_Rradd => k_is)
    (case l_Rradd => k_is)
    (case c_Rradd => k_is)
    (case k_Rradd => k_is)
    (case a_Rmul => k_is)
    (case i_Rmul => k_is)
    (case l_Rmul => k_is)
    (case c_Rmul => k_is)
    (case k_Rmul => k_is)
    (case a_Rrmul => k_is)
    (case i_Rrmul => k_is)
    (case l_Rrmul => k_is)
    (case c_Rrmul => k_is)
    (case k_Rrmul => k_is)
    (case a_Req => k_is)
    (case i_Req => k_is)
    (case l_Req => k_is)
    (case c_Req => k_is)
    (case k_Req => k_is)
    (case a_Rrepr => k_is)
    (case i_Rrepr => k_is)
    (case l_Rrepr => k_is)
    (case c_Rrepr => k_is)
    (case k_Rrepr => k_is)
    (case mk => k_is)
    (case kC => k_is)
    (case pg => k_is)
    (case hd => k_is)
    (case po => k_is)
    (case sa => k_is)
    (case nt => k_is)
    (case nb => k_is)
    (case clA => k_is)
    (case clN => k_is)
    (case clT => k_is)
    (case clM => k_is)
    (case isC => k_is)
    (case tyC => k_is)
    (case gcd => k_is)
    (case sf => k_is)
    (case nf1 => k_is)
    (case nf2 => k_is)
    (case neC => k_is)
    (case no_add => k_is)
    (case nr_add => k_is)
    (case sq_add => first | rfl | decide +kernel)
    (case no_mul => k_is)
    (case nr_mul => k_is)
    (case sq_mul => first | rfl | decide +kernel)
    (case su_int => k_is)
    (case su_bool => k_is)
    (case su_str => k_is)
    (case su_tuple => k_is)
    (case su_list => k_is)
    (case su_NoneType => k_is)
    (case us_int => k_is)
    (case us_bool => k_is)
    (case us_str => k_is)
    (case us_tuple => k_is)
    (case us_list => k_is)
    (case us_NoneType => k_is)
    (case us_dict => k_is)
    (case aC_Table => k_is)
    (case a_Table_init => k_is)
    (case i_Table_init => k_is)
    (case l_Table_init => k_is)
    (case c_Table_init => k_is)
    (case k_Table_init => k_is)
    (case a_Table_columns => k_is)
    (case gg_Table_columns => k_is)
    (case t_Table_columns => k_is)
    (case e_Table_columns => k_is)
    (case l_Table_columns => k_is)
    (case c_Table_columns => k_is)
    (case k_Table_columns => k_is)
    (case a_Table_height => k_is)
    (case gg_Table_height => k_is)
    (case t_Table_height => k_is)
    (case e_Table_height => k_is)
    (case l_Table_height => k_is)
    (case c_Table_height => k_is)
    (case k_Table_height => k_is)
    (case a_Table_rows => k_is)
    (case i_Table_rows => k_is)
    (case l_Table_rows => k_is)
    (case c_Table_rows => k_is)
    (case k_Table_rows => k_is)
    (case mk_Table => k_is)
    (case kC_Table => k_is)
    (case pg_Table => k_is)
    (case hd_Table => k_is)
    (case po_Table => k_is)
    (case sa_Table => k_is)
    (case clA_Table => k_is)
    (case clM_Table => k_is)
    (case isC_Table => k_is)
    (case tyC_Table => k_is)
    (case no_Table_columns => k_is)
    (case no_Table_rows => k_is)
    (case su_int_Table => k_is)
    (case su_bool_Table => k_is)
    (case su_str_Table => k_is)
    (case su_tuple_Table => k_is)
    (case su_list_Table => k_is)
    (case su_NoneType_Table => k_is)
    (case us_int_Table => k_is)
    (case us_bool_Table => k_is)
    (case us_str_Table => k_is)
    (case us_tuple_Table => k_is)
    (case us_list_Table => k_is)
    (case us_NoneType_Table => k_is)
    (case rr_Ratio_Table => k_is)
    (case rr_Table_Ratio => k_is)
    (case nc_Table => k_is)
    (case z_abs => k_is)
    (case z_all => k_is)
    (case z_bool => k_is)
    (case z_divmod => k_is)
    (case z_enumerate => k_is)
    (case z_int => k_is)
    (case z_isinstance => k_is)
    (case z_len => k_is)
    (case z_list => k_is)
    (case z_max => k_is)
    (case z_range => k_is)
    (case z_tuple => k_is)
    (case z_zip => k_is)
    (case v_MOST_COLUMNS => k_is)
    (case v_MOST_LETTERS => k_is)
    (case v_MOST_POWER => k_is)
    (case v_MOST_ROWS => k_is)
#print axioms PySem.Challenge.cw_aheadsums_k22_whole_words_over_rows_holds

