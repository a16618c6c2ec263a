import PyProof.Rows.All
import Wide.All
import OpenK.AllK
import Wide.FinOn
import HandS.ForMost
import HandS.TupAny
import HandS.TupMul
import KE.KDictKeyed
import KE.KeyNested
import HandS.Style
import HandS.Zip
import HandS.IsInst
import KE.KDictDisplayH
import KE.KDictWalk
import HandS.Dict
import HandS.Iter
import KE.GoesEnum
import KE.SortData
import HandS.More
import OpenK.KMore
import PyProof.ReprRoads
import HandS.Ends
import PySem.Challenge.RW_aheadsums_k26_how_many_lacings
set_option Elab.async false
set_option maxRecDepth 100000
set_option maxHeartbeats 4000000
set_option exponentiation.threshold 10000
set_option linter.all false
/-! Data of a run as plain values: the heap only grows but for lists and dicts that one def builds (own ones) and for the pot of draws. -/
namespace Pd
open PySem L2

inductive D where
  | non | bl (b : Bool) | int (i : Int) | str (x : Str) | tup (ds : List D) | lst (ds : List D) | dic (kvs : List (D × D)) | pot | ins (c : Str) (fs : List (Str × D))

mutual
def D.nk : D → Option NestedKey
  | .non => some .none
  | .bl b => some (.num (if b = true then 1 else 0))
  | .int i => some (.num i)
  | .str x => some (.text x)
  | .tup ds => match D.nks ds with
    | some ks => some (.tup ks)
    | none => none
  | .lst _ => none
  | .dic _ => none
  | .pot => none
  | .ins _ _ => none
def D.nks : List D → Option (List NestedKey)
  | [] => some []
  | d :: ds => match D.nk d with
    | none => none
    | some k => match D.nks ds with
      | none => none
      | some ks => some (k :: ks)
end
mutual
def D.py : D → Option PyData
  | .non => some .none
  | .bl b => some (.bool b)
  | .int i => some (.int i)
  | .str x => some (.str x)
  | .tup ds => match D.pys ds with
    | some ks => some (.tuple ks)
    | none => none
  | .lst ds => match D.pys ds with
    | some ks => some (.list ks)
    | none => none
  | .dic _ => none
  | .pot => none
  | .ins _ _ => none
def D.pys : List D → Option (List PyData)
  | [] => some []
  | d :: ds => match D.py d with
    | none => none
    | some k => match D.pys ds with
      | none => none
      | some ks => some (k :: ks)
end

/-! ### runs with draws -/
inductive T (α : Type) where
  | ret (a : α) | fail | draw (n : Nat) (k : Nat → T α)
def T.bind {α β : Type} : T α → (α → T β) → T β
  | .ret a, f => f a
  | .fail, _ => .fail
  | .draw n k, f => .draw n fun i => (k i).bind f
def T.all {α : Type} (P : α → Prop) : T α → Prop
  | .ret a => P a
  | .fail => False
  | .draw n k => ∀ i, i < n → (k i).all P
theorem T.all_bind {α β : Type} {P : β → Prop} : ∀ {t : T α} {f : α → T β}, (t.bind f).all P ↔ t.all fun a => (f a).all P
  | .ret _, _ => Iff.rfl
  | .fail, _ => Iff.rfl
  | .draw n k, f => by
    show (∀ i, i < n → ((k i).bind f).all P) ↔ (∀ i, i < n → (k i).all fun a => (f a).all P)
    exact ⟨fun h i hi => T.all_bind.mp (h i hi), fun h i hi => T.all_bind.mpr (h i hi)⟩
theorem T.all_mono {α : Type} {P Q : α → Prop} (h : ∀ a, P a → Q a) : ∀ {t : T α}, t.all P → t.all Q
  | .ret a, x => h a x
  | .fail, x => x
  | .draw _ _, x => fun i hi => T.all_mono h (x i hi)
/-- decided -/
def T.allB {α : Type} (p : α → Bool) : T α → Bool
  | .ret a => p a
  | .fail => false
  | .draw n k => (List.range n).all fun i => (k i).allB p
theorem T.all_of {α : Type} {p : α → Bool} : ∀ {t : T α}, t.allB p = true → t.all fun a => p a = true
  | .ret _, h => h
  | .fail, h => by cases h
  | .draw n k, h => fun i hi => T.all_of (List.all_eq_true.mp h i (List.mem_range.mpr hi))

/-! ### what stands in the heap -/
def DN (P : Program) (w : World) (a : Addr) (xs : List (NestedKey × Addr × V)) : HO := .ext fun h => (a == sysModules) = false ∧ xs.length ≤ sizeLine ∧ (xs.map (·.1)).Nodup ∧ ∃ ys : List (NestedKey × Addr × Value),
  Paired (fun p q => p.1 = q.1 ∧ p.2.1 = q.2.1 ∧ RelV p.2.2 q.2.2) xs ys ∧ ∃ o es ep, h.get? a = some o ∧ o.ExactDict ∧ o.data = .dict es ep ∧ es.toList = ys.map (entryOfKey (nestedKind P w))

section
variable (K : PySem.W.Frag) (P : Program) (w : World) (π : Addr)
mutual
inductive Rv (H : Hp) : V → D → Prop
  | non : Rv H .non .non
  | bl (b : Bool) : Rv H (.bl b) (.bl b)
  | int (i : Int) : Rv H (.int i) (.int i)
  | str (x : Str) : Rv H (.str x) (.str x)
  | tup {a : Addr} {vs : List V} {ds : List D} : H a = some (.tup vs) → a ≠ π → RvL H vs ds → Rv H (.ref a) (.tup ds)
  | tupK {a : Addr} {vs : List V} {ds : List D} : (∀ H', SqT K H' a vs) → RvL H vs ds → Rv H (.ref a) (.tup ds)
  | lst {a : Addr} {vs : List V} {ds : List D} : H a = some (.lst vs) → a ≠ π → RvL H vs ds → Rv H (.ref a) (.lst ds)
  | dic {a : Addr} {od : Obj} {xs : List (NestedKey × Addr × V)} {kvs : List (D × D)} : H a = some (.frz od (DN P w a xs)) → a ≠ π → RvD H xs kvs → Rv H (.ref a) (.dic kvs)
  | pot : Rv H (.ref π) .pot
  | ins {a dx C : Addr} {c : Str} {fs : List (Str × V)} {ds : List (Str × D)} : PySem.W.nsIn K mainGlobals c = some (some (.ref C)) → H a = some (.ins C dx fs) → a ≠ π → RvF H fs ds → Rv H (.ref a) (.ins c ds)
inductive RvF (H : Hp) : List (Str × V) → List (Str × D) → Prop
  | nil : RvF H [] []
  | cons {x : Str} {v : V} {d : D} {fs : List (Str × V)} {ds : List (Str × D)} : Rv H v d → RvF H fs ds → RvF H ((x, v) :: fs) ((x, d) :: ds)
inductive RvL (H : Hp) : List V → List D → Prop
  | nil : RvL H [] []
  | cons {v : V} {d : D} {vs : List V} {ds : List D} : Rv H v d → RvL H vs ds → RvL H (v :: vs) (d :: ds)
inductive RvD (H : Hp) : List (NestedKey × Addr × V) → List (D × D) → Prop
  | nil : RvD H [] []
  | cons {k : NestedKey} {a : Addr} {v : V} {dk dv : D} {xs : List (NestedKey × Addr × V)} {kvs : List (D × D)} : dk.nk = some k → k.depth ≤ 8 → Rv H (.ref a) dk → Rv H v dv → RvD H xs kvs → RvD H ((k, a, v) :: xs) ((dk, dv) :: kvs)
end
end

/-- what is tracked (but the pot) stays -/
def Kp (π : Addr) (H H' : Hp) : Prop := ∀ a o, a ≠ π → H a = some o → H' a = some o
theorem Kp.refl {π : Addr} {H : Hp} : Kp π H H := fun _ _ _ h => h
theorem Kp.trans {π : Addr} {H H1 H2 : Hp} (a : Kp π H H1) (b : Kp π H1 H2) : Kp π H H2 := fun x o n h => b x o n (a x o n h)

section
variable {K : PySem.W.Frag} {P : Program} {w : World} {π : Addr} {H H' : Hp}
mutual
theorem Rv.mono (k : Kp π H H') : ∀ {d : D} {v : V}, Rv K P w π H v d → Rv K P w π H' v d
  | _, _, .non => .non
  | _, _, .bl b => .bl b
  | _, _, .int i => .int i
  | _, _, .str x => .str x
  | _, _, .tup h n r => .tup (k _ _ n h) n (RvL.mono k r)
  | _, _, .tupK h r => .tupK h (RvL.mono k r)
  | _, _, .lst h n r => .lst (k _ _ n h) n (RvL.mono k r)
  | _, _, .dic h n r => .dic (k _ _ n h) n (RvD.mono k r)
  | _, _, .pot => .pot
  | _, _, .ins c h n r => .ins c (k _ _ n h) n (RvF.mono k r)
theorem RvF.mono (k : Kp π H H') : ∀ {ds : List (Str × D)} {vs : List (Str × V)}, RvF K P w π H vs ds → RvF K P w π H' vs ds
  | _, _, .nil => .nil
  | _, _, .cons r t => .cons (Rv.mono k r) (RvF.mono k t)
theorem RvL.mono (k : Kp π H H') : ∀ {ds : List D} {vs : List V}, RvL K P w π H vs ds → RvL K P w π H' vs ds
  | _, _, .nil => .nil
  | _, _, .cons r t => .cons (Rv.mono k r) (RvL.mono k t)
theorem RvD.mono (k : Kp π H H') : ∀ {kvs : List (D × D)} {xs : List (NestedKey × Addr × V)}, RvD K P w π H xs kvs → RvD K P w π H' xs kvs
  | _, _, .nil => .nil
  | _, _, .cons e dp rk r t => .cons e dp (Rv.mono k rk) (Rv.mono k r) (RvD.mono k t)
end
theorem RvL.length : ∀ {ds : List D} {vs : List V}, RvL K P w π H vs ds → vs.length = ds.length
  | _, _, .nil => rfl
  | _, _, .cons _ t => congrArg Nat.succ (RvL.length t)
theorem RvL.get : ∀ {ds : List D} {vs : List V} {i : Nat} {d : D}, RvL K P w π H vs ds → ds[i]? = some d → ∃ v, vs[i]? = some v ∧ Rv K P w π H v d
  | _, _, _, _, .nil, e => by simp at e
  | _, _, 0, _, .cons r _, e => by simp at e; subst e; exact ⟨_, rfl, r⟩
  | _, _, i + 1, _, .cons _ t, e => RvL.get (i := i) t e
theorem RvL.get' : ∀ {ds : List D} {vs : List V} {i : Nat} {v : V}, RvL K P w π H vs ds → vs[i]? = some v → ∃ d, ds[i]? = some d ∧ Rv K P w π H v d
  | _, _, _, _, .nil, e => by simp at e
  | _, _, 0, _, .cons r _, e => by simp at e; subst e; exact ⟨_, rfl, r⟩
  | _, _, i + 1, _, .cons _ t, e => RvL.get' (i := i) t e
theorem RvL.append : ∀ {ds es : List D} {vs us : List V}, RvL K P w π H vs ds → RvL K P w π H us es → RvL K P w π H (vs ++ us) (ds ++ es)
  | _, _, _, _, .nil, s => s
  | _, _, _, _, .cons r t, s => .cons r (RvL.append t s)
theorem RvL.set {x : V} {d : D} (r : Rv K P w π H x d) : ∀ {ds : List D} {vs : List V} (i : Nat), RvL K P w π H vs ds → RvL K P w π H (vs.set i x) (ds.set i d)
  | _, _, _, .nil => .nil
  | _, _, 0, .cons _ t => .cons r t
  | _, _, i + 1, .cons q t => .cons q (RvL.set r i t)
theorem RvL.take : ∀ {ds : List D} {vs : List V} (n : Nat), RvL K P w π H vs ds → RvL K P w π H (vs.take n) (ds.take n)
  | _, _, 0, _ => .nil
  | _, _, _ + 1, .nil => .nil
  | _, _, n + 1, .cons r t => .cons r (RvL.take n t)
theorem RvL.drop : ∀ {ds : List D} {vs : List V} (n : Nat), RvL K P w π H vs ds → RvL K P w π H (vs.drop n) (ds.drop n)
  | _, _, 0, r => r
  | _, _, _ + 1, .nil => .nil
  | _, _, n + 1, .cons _ t => RvL.drop n t
end

def Hide (N : Addr → Bool) (H : Hp) : Hp := fun a => if N a = true then none else H a
theorem hide_some {N : Addr → Bool} {H : Hp} {a : Addr} {o : HO} (h : Hide N H a = some o) : N a = false ∧ H a = some o := by
  unfold Hide at h
  by_cases n : N a = true
  · rw [if_pos n] at h
    cases h
  · rw [if_neg n] at h
    exact ⟨by simpa using n, h⟩
theorem hide_in {N : Addr → Bool} {H : Hp} {a : Addr} (n : N a = false) : Hide N H a = H a := by
  unfold Hide
  rw [if_neg (by rw [n]; exact Bool.false_ne_true)]
theorem Kp.hide {π : Addr} {N : Addr → Bool} {H H' : Hp} (k : Kp π H H') : Kp π (Hide N H) (Hide N H') := fun a o n h => by
  obtain ⟨na, ha⟩ := hide_some h
  rw [hide_in na]
  exact k a o n ha
theorem Kp.unhide {π : Addr} {N : Addr → Bool} {H : Hp} : Kp π (Hide N H) H := fun _ _ _ h => (hide_some h).2
theorem Kp.less {π : Addr} {N N' : Addr → Bool} {H : Hp} (s : ∀ a, N' a = true → N a = true) : Kp π (Hide N H) (Hide N' H) := fun a o _ h => by
  obtain ⟨na, ha⟩ := hide_some h
  rw [hide_in, ha]
  cases q : N' a with
  | false => rfl
  | true => rw [s a q] at na; cases na

def PotOk (H : Hp) (π : Addr) : Prop := ∃ x y : Int, H π = some (.lst [.int x, .int y]) ∧ 0 ≤ x ∧ 0 ≤ y ∧ y < 2147483648
structure Ex (π : Addr) (H H' : Hp) : Prop where
  kp : Kp π H H'
  pot : PotOk H' π
theorem Ex.refl {π : Addr} {H : Hp} (p : PotOk H π) : Ex π H H := ⟨.refl, p⟩
theorem Ex.trans {π : Addr} {H H1 H2 : Hp} (a : Ex π H H1) (b : Ex π H1 H2) : Ex π H H2 := ⟨a.kp.trans b.kp, b.pot⟩
structure HN (π : Addr) (N : Addr → Bool) (H : Hp) : Prop where
  pot : PotOk H π
  npi : N π = false
  isS : ∀ a, N a = true → H a ≠ none
theorem HN.ext {π : Addr} {N : Addr → Bool} {H H' : Hp} (h : HN π N H) (e : Ex π H H') : HN π N H' := ⟨e.pot, h.npi, fun a n => by
  have q := h.isS a n
  have ne : a ≠ π := fun z => by rw [z, h.npi] at n; cases n
  cases c : H a with
  | none => exact absurd c q
  | some o => rw [e.kp a o ne c]; exact fun z => by cases z⟩
theorem PotOk.ne {π p : Addr} {H : Hp} (h : PotOk H π) (n : H p = none) : p ≠ π := fun e => by
  obtain ⟨x, y, q, _⟩ := h
  rw [← e, n] at q
  cases q
theorem HN.new {π p : Addr} {N : Addr → Bool} {H : Hp} (h : HN π N H) (n : H p = none) : N p = false := by
  cases c : N p with
  | false => rfl
  | true => exact absurd n (h.isS p c)
theorem Ex.new {π p : Addr} {H : Hp} {o : HO} (h : PotOk H π) (n : H p = none) : Ex π H (upd H p o) := ⟨fun a u _ e => by
  rw [upd_ne (ne_of_none e n)]
  exact e, by
  obtain ⟨x, y, q, r⟩ := h
  exact ⟨x, y, by rw [upd_ne (ne_of_none q n)]; exact q, r⟩⟩
theorem hide_new {p : Addr} {N : Addr → Bool} {H : Hp} {o : HO} (n : N p = false) : Hide N (upd H p o) p = some o := by
  rw [hide_in n, upd_same]

/-! ### the names of a def -/
inductive Ent where
  | un | val (d : D) | own (ds : List D) | ownD (kvs : List (D × D)) | ownI (c : Str) (fs : List (Str × D))
abbrev Rho := List Ent
def Ent.isOwn : Ent → Bool
  | .own _ => true
  | .ownD _ => true
  | .ownI _ _ => true
  | _ => false
/-- what stands at l for an own thing -/
def OwnAt (K : PySem.W.Frag) (P : Program) (w : World) (π : Addr) (H : Hp) (l : Addr) (o : HO) : Ent → Prop
  | .own ds => ∃ vs, o = .lst vs ∧ RvL K P w π H vs ds
  | .ownD kvs => ∃ xs, o = DN P w l xs ∧ RvD K P w π H xs kvs
  | .ownI c fs => ∃ C dx vs, o = .ins C dx vs ∧ PySem.W.nsIn K mainGlobals c = some (some (.ref C)) ∧ RvF K P w π H vs fs
  | _ => False
theorem OwnAt.isOwn {K : PySem.W.Frag} {P : Program} {w : World} {π l : Addr} {H : Hp} {o : HO} : ∀ {x : Ent}, OwnAt K P w π H l o x → x.isOwn = true
  | .own _, _ => rfl
  | .ownD _, _ => rfl
  | .ownI _ _, _ => rfl
theorem OwnAt.mono {K : PySem.W.Frag} {P : Program} {w : World} {π l : Addr} {H H' : Hp} {o : HO} (k : Kp π H H') : ∀ {x : Ent}, OwnAt K P w π H l o x → OwnAt K P w π H' l o x
  | .own _, ⟨vs, e, r⟩ => ⟨vs, e, r.mono k⟩
  | .ownD _, ⟨vs, e, r⟩ => ⟨vs, e, r.mono k⟩
  | .ownI _ _, ⟨C, dx, vs, e, c, r⟩ => ⟨C, dx, vs, e, c, r.mono k⟩

structure EnvOk (K : PySem.W.Frag) (P : Program) (w : World) (π : Addr) (N0 : Addr → Bool) (H0 : Hp) (N : Addr → Bool) (H : Hp) (σ : L2.St) (ρ : Rho) : Prop where
  hn : HN π N H
  ex : Kp π H0 H
  sub : ∀ a, N0 a = true → N a = true
  own0 : ∀ a, N a = true → N0 a = true ∨ H0 a = none
  len : σ.length = ρ.length
  val : ∀ (i : Nat) (d : D), ρ[i]? = some (.val d) → ∃ v, σ[i]? = some (some v) ∧ Rv K P w π (Hide N H) v d
  own : ∀ (i : Nat) (x : Ent), ρ[i]? = some x → x.isOwn = true → ∃ l o, σ[i]? = some (some (.ref l)) ∧ N l = true ∧ N0 l = false ∧ H l = some o ∧ OwnAt K P w π (Hide N H) l o x
  inj : ∀ (i j : Nat) (e f : Ent) (l : Addr), ρ[i]? = some e → ρ[j]? = some f → e.isOwn = true → f.isOwn = true → σ[i]? = some (some (.ref l)) → σ[j]? = some (some (.ref l)) → i = j

section
variable {K : PySem.W.Frag} {P : Program} {w : World} {π : Addr} {N0 N : Addr → Bool} {H0 H H' : Hp} {σ : L2.St} {ρ : Rho}
theorem EnvOk.lst (I : EnvOk K P w π N0 H0 N H σ ρ) (i : Nat) (ds : List D) (h : ρ[i]? = some (.own ds)) : ∃ l vs, σ[i]? = some (some (.ref l)) ∧ N l = true ∧ N0 l = false ∧ H l = some (.lst vs) ∧ RvL K P w π (Hide N H) vs ds := by
  obtain ⟨l, o, a, n, n0, b, vs, rfl, r⟩ := I.own i _ h rfl
  exact ⟨l, vs, a, n, n0, b, r⟩
theorem EnvOk.dic (I : EnvOk K P w π N0 H0 N H σ ρ) (i : Nat) (kvs : List (D × D)) (h : ρ[i]? = some (.ownD kvs)) : ∃ l xs, σ[i]? = some (some (.ref l)) ∧ N l = true ∧ N0 l = false ∧ H l = some (DN P w l xs) ∧ RvD K P w π (Hide N H) xs kvs := by
  obtain ⟨l, o, a, n, n0, b, vs, rfl, r⟩ := I.own i _ h rfl
  exact ⟨l, vs, a, n, n0, b, r⟩
theorem EnvOk.obj (I : EnvOk K P w π N0 H0 N H σ ρ) (i : Nat) (c : Str) (fs : List (Str × D)) (h : ρ[i]? = some (.ownI c fs)) : ∃ l C dx vs, σ[i]? = some (some (.ref l)) ∧ N l = true ∧ N0 l = false ∧ H l = some (.ins C dx vs) ∧ PySem.W.nsIn K mainGlobals c = some (some (.ref C)) ∧ RvF K P w π (Hide N H) vs fs := by
  obtain ⟨l, o, a, n, n0, b, C, dx, vs, rfl, c, r⟩ := I.own i _ h rfl
  exact ⟨l, C, dx, vs, a, n, n0, b, c, r⟩
theorem EnvOk.ext (I : EnvOk K P w π N0 H0 N H σ ρ) (e : Ex π H H') : EnvOk K P w π N0 H0 N H' σ ρ where
  hn := I.hn.ext e
  ex := I.ex.trans e.kp
  sub := I.sub
  own0 := I.own0
  len := I.len
  val := fun i d h => let ⟨v, a, b⟩ := I.val i d h; ⟨v, a, b.mono e.kp.hide⟩
  own := fun i x h ho => let ⟨l, o, a, n, n0, b, c⟩ := I.own i x h ho
    ⟨l, o, a, n, n0, e.kp l _ (fun z => by rw [z, I.hn.npi] at n; cases n) b, c.mono e.kp.hide⟩
  inj := I.inj
/-- a name gets a value -/
theorem EnvOk.set {i : Nat} {v : V} {d : D} (I : EnvOk K P w π N0 H0 N H σ ρ) (r : Rv K P w π (Hide N H) v d) : EnvOk K P w π N0 H0 N H (σ.set i (some v)) (ρ.set i (.val d)) where
  hn := I.hn
  ex := I.ex
  sub := I.sub
  own0 := I.own0
  len := by rw [List.length_set, List.length_set]; exact I.len
  val := fun j e h => by
    by_cases q : i = j
    · subst q
      have hl : i < ρ.length := by
        have z := (List.getElem?_eq_some_iff.mp h).1
        rw [List.length_set] at z
        exact z
      rw [List.getElem?_set_self hl] at h
      cases h
      exact ⟨v, List.getElem?_set_self (by rw [I.len]; exact hl), r⟩
    · rw [List.getElem?_set_ne q] at h ⊢
      exact I.val j e h
  own := fun j x h ho => by
    by_cases q : i = j
    · subst q
      have hl : i < ρ.length := by
        have z := (List.getElem?_eq_some_iff.mp h).1
        rw [List.length_set] at z
        exact z
      rw [List.getElem?_set_self hl] at h
      cases h
      cases ho
    · rw [List.getElem?_set_ne q] at h ⊢
      exact I.own j x h ho
  inj := fun j k e f l h1 h2 o1 o2 s1 s2 => by
    have aux : ∀ {j : Nat} {e : Ent}, (ρ.set i (.val d))[j]? = some e → e.isOwn = true → i ≠ j := fun {j e} h1 o1 q => by
      subst q
      have hl : i < ρ.length := by
        have z := (List.getElem?_eq_some_iff.mp h1).1
        rw [List.length_set] at z
        exact z
      rw [List.getElem?_set_self hl] at h1
      cases h1
      cases o1
    have nj := aux h1 o1
    have nk := aux h2 o2
    rw [List.getElem?_set_ne nj] at h1 s1
    rw [List.getElem?_set_ne nk] at h2 s2
    exact I.inj j k e f l h1 h2 o1 o2 s1 s2
end
end Pd

namespace Pd
open PySem L2

section
variable {K : PySem.W.Frag} {P : Program} {w : World} {π : Addr} {N0 N N' : Addr → Bool} {H0 H H' : Hp} {σ σ' : L2.St} {ρ ρ' : Rho}
theorem at_set {α : Type} {l : List α} {i j : Nat} {x y : α} (h : (l.set i x)[j]? = some y) : (i = j ∧ i < l.length ∧ x = y) ∨ (i ≠ j ∧ l[j]? = some y) := by
  by_cases q : i = j
  · subst q
    have hl : i < l.length := by
      have z := (List.getElem?_eq_some_iff.mp h).1
      rw [List.length_set] at z
      exact z
    rw [List.getElem?_set_self hl] at h
    exact .inl ⟨rfl, hl, Option.some.inj h⟩
  · rw [List.getElem?_set_ne q] at h
    exact .inr ⟨q, h⟩
def plus (N : Addr → Bool) (l : Addr) : Addr → Bool := fun a => N a || a == l
def minus (N : Addr → Bool) (l : Addr) : Addr → Bool := fun a => N a && a != l
theorem plus_old {l a : Addr} (h : N a = true) : plus N l a = true := by simp [plus, h]
theorem plus_self {l : Addr} : plus N l l = true := by simp [plus]
theorem plus_or {l a : Addr} (h : plus N l a = true) : N a = true ∨ a = l := by simpa [plus] using h
theorem minus_of {l a : Addr} (h : N a = true) (n : a ≠ l) : minus N l a = true := by simp [minus, h, n]
theorem minus_in {l a : Addr} (h : minus N l a = true) : N a = true ∧ a ≠ l := by simpa [minus] using h
theorem minus_self {l : Addr} : minus N l l = false := by simp [minus]

theorem N_ne (hn : HN π N H) {l : Addr} (h : N l = true) : l ≠ π := fun z => by rw [z, hn.npi] at h; cases h
theorem Ex.hidden (e : Ex π H H') {l : Addr} (hl : H l = none) : Kp π (Hide N H) (Hide (plus N l) H') := fun a o n h => by
  obtain ⟨na, ha⟩ := hide_some h
  have ne : a ≠ l := fun z => by rw [z, hl] at ha; cases ha
  rw [hide_in (by simp [plus, na, ne])]
  exact e.kp a o n ha
/-- what a new own thing leaves -/
theorem EnvOk.newOwn {i : Nat} {l : Addr} {x : Ent} {o : HO} (I : EnvOk K P w π N0 H0 N H σ ρ) (e : Ex π H H') (hl : H l = none) (ho : H' l = some o) (hx : OwnAt K P w π (Hide (plus N l) H') l o x) :
    EnvOk K P w π N0 H0 (plus N l) H' (σ.set i (some (.ref l))) (ρ.set i x) := by
  have hl' : H' l ≠ none := by rw [ho]; exact fun z => by cases z
  have lpi : l ≠ π := I.hn.pot.ne hl
  have Nl : N l = false := I.hn.new hl
  have N0l : N0 l = false := by
    cases c : N0 l with
    | false => rfl
    | true => rw [I.sub l c] at Nl; cases Nl
  have keep : ∀ {l' : Addr} {o : HO}, N l' = true → H l' = some o → l' ≠ l ∧ H' l' = some o := fun {l' o} n h => ⟨(fun z => by rw [z, Nl] at n; cases n), e.kp l' o (N_ne I.hn n) h⟩
  refine ⟨⟨e.pot, by simp [plus, I.hn.npi, lpi.symm], fun a h => ?_⟩, I.ex.trans e.kp, fun a h => plus_old (I.sub a h), fun a h => ?_, ?_, fun j d h => ?_, fun j y h yo => ?_, ?_⟩
  · rcases plus_or h with h | h
    · exact (I.hn.ext e).isS a h
    · rw [h]; exact hl'
  · rcases plus_or h with h | h
    · exact I.own0 a h
    · refine .inr ?_
      rw [h]
      cases c : H0 l with
      | none => rfl
      | some o => rw [I.ex l o lpi c] at hl; cases hl
  · rw [List.length_set, List.length_set]; exact I.len
  · rcases at_set h with ⟨rfl, hi, q⟩ | ⟨q, h⟩
    · subst q; exact hx.elim
    · obtain ⟨v, a, b⟩ := I.val j d h
      exact ⟨v, by rw [List.getElem?_set_ne q]; exact a, b.mono (e.hidden hl)⟩
  · rcases at_set h with ⟨rfl, hi, q⟩ | ⟨q, h⟩
    · subst q
      exact ⟨l, o, List.getElem?_set_self (by rw [I.len]; exact hi), plus_self, N0l, ho, hx⟩
    · obtain ⟨l', o', a, n, n0, b, c⟩ := I.own j y h yo
      exact ⟨l', o', by rw [List.getElem?_set_ne q]; exact a, plus_old n, n0, (keep n b).2, c.mono (e.hidden hl)⟩
  · -- another own thing stands elsewhere
    have other : ∀ {j : Nat} {f : Ent} {l' : Addr}, ρ[j]? = some f → f.isOwn = true → σ[j]? = some (some (.ref l')) → l' ≠ l := fun {j f l'} h1 o1 s1 => by
      obtain ⟨l2, o2, a, n, _, b, _⟩ := I.own j f h1 o1
      rw [s1] at a
      cases a
      exact (keep n b).1
    intro j k f g l' h1 h2 o1 o2 s1 s2
    rcases at_set h1 with ⟨rfl, hi, q⟩ | ⟨q, h1⟩
    · rw [List.getElem?_set_self (by rw [I.len]; exact hi)] at s1
      cases s1
      rcases at_set h2 with ⟨rfl, _, _⟩ | ⟨q2, h2⟩
      · rfl
      · rw [List.getElem?_set_ne q2] at s2
        exact absurd rfl (other h2 o2 s2)
    · rw [List.getElem?_set_ne q] at s1
      rcases at_set h2 with ⟨rfl, hi, q2⟩ | ⟨q2, h2⟩
      · rw [List.getElem?_set_self (by rw [I.len]; exact hi)] at s2
        cases s2
        exact absurd rfl (other h1 o1 s1)
      · rw [List.getElem?_set_ne q2] at s2
        exact I.inj j k f g l' h1 h2 o1 o2 s1 s2
theorem EnvOk.newAny {i : Nat} {l : Addr} {x : Ent} (I : EnvOk K P w π N0 H0 N H σ ρ) (e : Ex π H H') (hl : H l = none) (_hl' : H' l ≠ none)
    (hx : (∃ vs ds, x = .own ds ∧ H' l = some (.lst vs) ∧ RvL K P w π (Hide (plus N l) H') vs ds) ∨ (∃ xs kvs, x = .ownD kvs ∧ H' l = some (DN P w l xs) ∧ RvD K P w π (Hide (plus N l) H') xs kvs)) :
    EnvOk K P w π N0 H0 (plus N l) H' (σ.set i (some (.ref l))) (ρ.set i x) := by
  rcases hx with ⟨vs, ds, rfl, h, r⟩ | ⟨xs, kvs, rfl, h, r⟩
  · exact I.newOwn e hl h ⟨vs, rfl, r⟩
  · exact I.newOwn e hl h ⟨xs, rfl, r⟩
/-- an own thing changes -/
theorem EnvOk.upOwn {i : Nat} {l : Addr} {x y : Ent} {o : HO} (I : EnvOk K P w π N0 H0 N H σ ρ) (hi : ρ[i]? = some y) (hy : y.isOwn = true) (hs : σ[i]? = some (some (.ref l))) (nl : N l = true) (n0 : N0 l = false) (hx : OwnAt K P w π (Hide N H) l o x) :
    EnvOk K P w π N0 H0 N (upd H l o) σ (ρ.set i x) := by
  have lpi := N_ne I.hn nl
  have e : Hide N (upd H l o) = Hide N H := by
    funext a
    by_cases q : a = l
    · subst q; simp [Hide, nl]
    · unfold Hide; rw [upd_ne q]
  have other : ∀ {j : Nat} {f : Ent} {l' : Addr}, i ≠ j → ρ[j]? = some f → f.isOwn = true → σ[j]? = some (some (.ref l')) → l' ≠ l := fun {j f l'} ne h1 o1 s1 z => by
    subst z
    exact ne (I.inj i j y f l' hi h1 hy o1 hs s1)
  refine ⟨⟨?_, I.hn.npi, fun a h => ?_⟩, fun a u n h => ?_, I.sub, I.own0, ?_, fun j d h => ?_, fun j z h zo => ?_, ?_⟩
  · obtain ⟨x, y, q, r⟩ := I.hn.pot
    exact ⟨x, y, by rw [upd_ne lpi.symm]; exact q, r⟩
  · by_cases q : a = l
    · subst q; rw [upd_same]; exact fun z => by cases z
    · rw [upd_ne q]; exact I.hn.isS a h
  · by_cases q : a = l
    · subst q
      rcases I.own0 a nl with z | z
      · rw [n0] at z; cases z
      · rw [z] at h; cases h
    · rw [upd_ne q]; exact I.ex a u n h
  · rw [List.length_set]; exact I.len
  · rw [e]
    rcases at_set h with ⟨rfl, _, q⟩ | ⟨q, h⟩
    · subst q; exact hx.elim
    · exact I.val j d h
  · rw [e]
    rcases at_set h with ⟨rfl, _, q⟩ | ⟨q, h⟩
    · subst q
      exact ⟨l, o, hs, nl, n0, upd_same, hx⟩
    · obtain ⟨l', o', a, n, n0, b, c⟩ := I.own j z h zo
      exact ⟨l', o', a, n, n0, by rw [upd_ne (other q h zo a)]; exact b, c⟩
  · intro j k f g l' h1 h2 o1 o2 s1 s2
    have back : ∀ {j : Nat} {f : Ent}, (ρ.set i x)[j]? = some f → f.isOwn = true → ∃ f', ρ[j]? = some f' ∧ f'.isOwn = true := fun {j f} h o1 => by
      rcases at_set h with ⟨rfl, _, _⟩ | ⟨_, h⟩
      · exact ⟨y, hi, hy⟩
      · exact ⟨f, h, o1⟩
    obtain ⟨f', a1, b1⟩ := back h1 o1
    obtain ⟨g', a2, b2⟩ := back h2 o2
    exact I.inj j k f' g' l' a1 a2 b1 b2 s1 s2
theorem EnvOk.upAny {i : Nat} {l : Addr} {x y : Ent} {o : HO} (I : EnvOk K P w π N0 H0 N H σ ρ) (hi : ρ[i]? = some y) (hy : y.isOwn = true) (hs : σ[i]? = some (some (.ref l))) (nl : N l = true) (n0 : N0 l = false)
    (hx : (∃ vs ds, x = .own ds ∧ o = .lst vs ∧ RvL K P w π (Hide N H) vs ds) ∨ (∃ xs kvs, x = .ownD kvs ∧ o = DN P w l xs ∧ RvD K P w π (Hide N H) xs kvs)) :
    EnvOk K P w π N0 H0 N (upd H l o) σ (ρ.set i x) := by
  rcases hx with ⟨vs, ds, rfl, h, r⟩ | ⟨xs, kvs, rfl, h, r⟩
  · exact I.upOwn hi hy hs nl n0 ⟨vs, h, r⟩
  · exact I.upOwn hi hy hs nl n0 ⟨xs, h, r⟩
/-- an own list, an own instance is a value from now on -/
theorem EnvOk.freezeAny {i : Nat} {y : Ent} {d : D} (I : EnvOk K P w π N0 H0 N H σ ρ) (hi : ρ[i]? = some y) (hy : (∃ ds, y = .own ds ∧ d = .lst ds) ∨ (∃ c fs, y = .ownI c fs ∧ d = .ins c fs)) :
    ∃ N', EnvOk K P w π N0 H0 N' H σ (ρ.set i (.val d)) := by
  have yo : y.isOwn = true := by rcases hy with ⟨_, rfl, _⟩ | ⟨_, _, rfl, _⟩ <;> rfl
  obtain ⟨l, o, hs, nl, n0, hb, hc⟩ := I.own i y hi yo
  have lpi := N_ne I.hn nl
  have k : Kp π (Hide N H) (Hide (minus N l) H) := Kp.less fun a h => (minus_in h).1
  have other : ∀ {j : Nat} {f : Ent} {l' : Addr}, i ≠ j → ρ[j]? = some f → f.isOwn = true → σ[j]? = some (some (.ref l')) → l' ≠ l := fun {j f l'} ne h1 o1 s1 z => by
    subst z
    exact ne (I.inj i j _ f l' hi h1 yo o1 hs s1)
  refine ⟨minus N l, ⟨I.hn.pot, ?_, fun a h => I.hn.isS a (minus_in h).1⟩, I.ex, fun a h => ?_, fun a h => I.own0 a (minus_in h).1, by rw [List.length_set]; exact I.len, fun j e h => ?_, fun j x h xo => ?_, ?_⟩
  · simp [minus, I.hn.npi]
  · exact minus_of (I.sub a h) fun z => by rw [z, n0] at h; cases h
  · rcases at_set h with ⟨rfl, _, q⟩ | ⟨q, h⟩
    · cases q
      refine ⟨.ref l, hs, ?_⟩
      rcases hy with ⟨ds, rfl, rfl⟩ | ⟨c, fs, rfl, rfl⟩
      · obtain ⟨vs, rfl, r⟩ := hc
        exact .lst (by rw [hide_in minus_self]; exact hb) lpi (r.mono k)
      · obtain ⟨C, dx, vs, rfl, cc, r⟩ := hc
        exact .ins cc (by rw [hide_in minus_self]; exact hb) lpi (r.mono k)
    · obtain ⟨v, a, b⟩ := I.val j e h
      exact ⟨v, a, b.mono k⟩
  · rcases at_set h with ⟨rfl, _, q⟩ | ⟨q, h⟩
    · subst q; cases xo
    · obtain ⟨l', o', a, n, m0, b, c⟩ := I.own j x h xo
      exact ⟨l', o', a, minus_of n (other q h xo a), m0, b, c.mono k⟩
  · intro j k f g l' h1 h2 o1 o2 s1 s2
    rcases at_set h1 with ⟨rfl, _, q⟩ | ⟨_, h1⟩
    · subst q; cases o1
    · rcases at_set h2 with ⟨rfl, _, q⟩ | ⟨_, h2⟩
      · subst q; cases o2
      · exact I.inj j k f g l' h1 h2 o1 o2 s1 s2
theorem EnvOk.freeze {i : Nat} {ds : List D} (I : EnvOk K P w π N0 H0 N H σ ρ) (hi : ρ[i]? = some (.own ds)) : ∃ N', EnvOk K P w π N0 H0 N' H σ (ρ.set i (.val (.lst ds))) := I.freezeAny hi (.inl ⟨ds, rfl, rfl⟩)
/-- an own dict is a value from now on: locked -/
theorem EnvOk.freezeD {i : Nat} {kvs : List (D × D)} (I : EnvOk K P w π N0 H0 N H σ ρ) (hi : ρ[i]? = some (.ownD kvs)) :
    ∃ l xs N', H l = some (DN P w l xs) ∧ ∀ od, EnvOk K P w π N0 H0 N' (upd H l (.frz od (DN P w l xs))) σ (ρ.set i (.val (.dic kvs))) := by
  obtain ⟨l, xs, hs, nl, n0, hb, hc⟩ := I.dic i kvs hi
  have lpi := N_ne I.hn nl
  refine ⟨l, xs, minus N l, hb, fun od => ?_⟩
  have k : Kp π (Hide N H) (Hide (minus N l) (upd H l (.frz od (DN P w l xs)))) := fun a o n h => by
    obtain ⟨na, ha⟩ := hide_some h
    have ne : a ≠ l := fun z => by rw [z, nl] at na; cases na
    rw [hide_in (by simp [minus, na]), upd_ne ne]
    exact ha
  have other : ∀ {j : Nat} {f : Ent} {l' : Addr}, i ≠ j → ρ[j]? = some f → f.isOwn = true → σ[j]? = some (some (.ref l')) → l' ≠ l := fun {j f l'} ne h1 o1 s1 z => by
    subst z
    exact ne (I.inj i j _ f l' hi h1 rfl o1 hs s1)
  refine ⟨⟨?_, ?_, fun a h => ?_⟩, fun a u n h => ?_, fun a h => ?_, fun a h => I.own0 a (minus_in h).1, by rw [List.length_set]; exact I.len, fun j e h => ?_, fun j x h xo => ?_, ?_⟩
  · obtain ⟨x, y, q, r⟩ := I.hn.pot
    exact ⟨x, y, by rw [upd_ne lpi.symm]; exact q, r⟩
  · simp [minus, I.hn.npi]
  · rw [upd_ne (minus_in h).2]; exact I.hn.isS a (minus_in h).1
  · by_cases q : a = l
    · subst q
      rcases I.own0 a nl with z | z
      · rw [n0] at z; cases z
      · rw [z] at h; cases h
    · rw [upd_ne q]; exact I.ex a u n h
  · exact minus_of (I.sub a h) fun z => by rw [z, n0] at h; cases h
  · rcases at_set h with ⟨rfl, _, q⟩ | ⟨q, h⟩
    · cases q
      exact ⟨.ref l, hs, .dic (by rw [hide_in minus_self, upd_same]) lpi (hc.mono k)⟩
    · obtain ⟨v, a, b⟩ := I.val j e h
      exact ⟨v, a, b.mono k⟩
  · rcases at_set h with ⟨rfl, _, q⟩ | ⟨q, h⟩
    · subst q; cases xo
    · obtain ⟨l', o', a, n, m0, b, c⟩ := I.own j x h xo
      exact ⟨l', o', a, minus_of n (other q h xo a), m0, by rw [upd_ne (other q h xo a)]; exact b, c.mono k⟩
  · intro j k f g l' h1 h2 o1 o2 s1 s2
    rcases at_set h1 with ⟨rfl, _, q⟩ | ⟨_, h1⟩
    · subst q; cases o1
    · rcases at_set h2 with ⟨rfl, _, q⟩ | ⟨_, h2⟩
      · subst q; cases o2
      · exact I.inj j k f g l' h1 h2 o1 o2 s1 s2
/-- a name without a value -/
theorem EnvOk.wipe1 {i : Nat} (I : EnvOk K P w π N0 H0 N H σ ρ) : EnvOk K P w π N0 H0 N H (σ.set i none) (ρ.set i .un) := by
  refine ⟨I.hn, I.ex, I.sub, I.own0, by rw [List.length_set, List.length_set]; exact I.len, fun j d h => ?_, fun j d h xo => ?_, fun j k f g l h1 h2 o1 o2 s1 s2 => ?_⟩
  · rcases at_set h with ⟨rfl, _, q⟩ | ⟨q, h⟩
    · cases q
    · rw [List.getElem?_set_ne q]; exact I.val j d h
  · rcases at_set h with ⟨rfl, _, q⟩ | ⟨q, h⟩
    · subst q; cases xo
    · rw [List.getElem?_set_ne q]; exact I.own j d h xo
  · rcases at_set h1 with ⟨rfl, _, q⟩ | ⟨q, h1⟩
    · subst q; cases o1
    · rcases at_set h2 with ⟨rfl, _, q2⟩ | ⟨q2, h2⟩
      · subst q2; cases o2
      · rw [List.getElem?_set_ne q] at s1
        rw [List.getElem?_set_ne q2] at s2
        exact I.inj j k f g l h1 h2 o1 o2 s1 s2
/-! what stays through a loop -/
def baseOf (N0 N : Addr → Bool) (H : Hp) : Hp := fun a => if (N a && !N0 a) = true then none else H a
theorem base_some {a : Addr} {o : HO} (h : baseOf N0 N H a = some o) : (N a = false ∨ N0 a = true) ∧ H a = some o := by
  unfold baseOf at h
  by_cases c : (N a && !N0 a) = true
  · rw [if_pos c] at h; cases h
  · rw [if_neg c] at h
    refine ⟨?_, h⟩
    cases h1 : N a with
    | false => exact .inl rfl
    | true =>
      cases h2 : N0 a with
      | true => exact .inr rfl
      | false => rw [h1, h2] at c; exact absurd rfl c
theorem base_in {a : Addr} (h : N a = false ∨ N0 a = true) : baseOf N0 N H a = H a := by
  unfold baseOf
  rw [if_neg]
  rcases h with h | h <;> simp [h]
theorem EnvOk.rebase (I : EnvOk K P w π N0 H0 N H σ ρ) : EnvOk K P w π N0 (baseOf N0 N H) N H σ ρ where
  hn := I.hn
  ex := fun a o _ h => (base_some h).2
  sub := I.sub
  own0 := fun a h => by
    cases c : N0 a with
    | true => exact .inl rfl
    | false =>
      refine .inr ?_
      unfold baseOf
      rw [if_pos (by simp [h, c])]
  len := I.len
  val := I.val
  own := I.own
  inj := I.inj
theorem EnvOk.base_kp (I : EnvOk K P w π N0 H0 N H σ ρ) : Kp π H0 (baseOf N0 N H) := fun a o n h => by
  rw [base_in ?_]
  · exact I.ex a o n h
  · cases c : N a with
    | false => exact .inl rfl
    | true =>
      rcases I.own0 a c with z | z
      · exact .inr z
      · rw [z] at h; cases h
theorem EnvOk.unbase (I : EnvOk K P w π N0 H0 N H σ ρ) (J : EnvOk K P w π N0 (baseOf N0 N H) N' H' σ' ρ') : EnvOk K P w π N0 H0 N' H' σ' ρ' where
  hn := J.hn
  ex := I.base_kp.trans J.ex
  sub := J.sub
  own0 := fun a h => by
    rcases J.own0 a h with z | z
    · exact .inl z
    · refine .inr ?_
      cases c : H0 a with
      | none => rfl
      | some o =>
        by_cases q : a = π
        · rw [q, J.hn.npi] at h; cases h
        · rw [I.base_kp a o q c] at z; cases z
  len := J.len
  val := J.val
  own := J.own
  inj := J.inj
theorem EnvOk.seen (I : EnvOk K P w π N0 H0 N H σ ρ) (J : EnvOk K P w π N0 (baseOf N0 N H) N' H' σ' ρ') : Kp π (Hide N H) (Hide N' H') := fun a o n h => by
  obtain ⟨na, ha⟩ := hide_some h
  have b : baseOf N0 N H a = some o := by rw [base_in (.inl na)]; exact ha
  have h1 := J.ex a o n b
  have n' : N' a = false := by
    cases c : N' a with
    | false => rfl
    | true =>
      rcases J.own0 a c with z | z
      · rw [I.sub a z] at na; cases na
      · rw [b] at z; cases z
  rw [hide_in n']
  exact h1
end

/-! ### the weakest reading of each piece -/
section
variable {X : Cx}
def wpE (X : Cx) (e : Expr) : TE := fun σ H Q => ∃ te, PE X e te ∧ te σ H Q
theorem pe_wp {e : Expr} : PE X e (wpE X e) := ⟨fun pins s σ H Q I ⟨_, h, q⟩ => h.run pins s σ H Q I q⟩
def wpT (X : Cx) (e : Expr) : TT := fun σ H Q => ∃ te, PT X e te ∧ te σ H Q
theorem pt_wp {e : Expr} : PT X e (wpT X e) := ⟨fun pins s σ H Q I ⟨_, h, q⟩ => h.run pins s σ H Q I q⟩
def wpW (X : Cx) (e : Expr) : TT := fun σ H Q => ∃ te, PW X e te ∧ te σ H Q
theorem pw_wp {e : Expr} : PW X e (wpW X e) := ⟨fun wh pins s σ H Q I ⟨_, h, q⟩ => h.run wh pins s σ H Q I q⟩
def wpA (X : Cx) (es : List Expr) : TA := fun σ H Q => ∃ te, PA X es te ∧ te σ H Q
theorem pa_wp {es : List Expr} : PA X es (wpA X es) := ⟨fun pos pins s σ H Q I ⟨_, h, q⟩ => h.run pos pins s σ H Q I q⟩
def wpS (X : Cx) (st : Stmt) : TS := fun De σ H => ∃ te, PS X st te ∧ te De σ H
theorem ps_wp {st : Stmt} : PS X st (wpS X st) := ⟨fun pins s σ H De I ⟨_, h, q⟩ => h.run pins s σ H De I q⟩
def wpSs (X : Cx) (st : List Stmt) : TS := fun De σ H => ∃ te, PSs X st te ∧ te De σ H
theorem pss_wp {st : List Stmt} : PSs X st (wpSs X st) := ⟨fun pins s σ H De I ⟨_, h, q⟩ => h.run pins s σ H De I q⟩
def wpG (X : Cx) (e : Expr) : TG := fun v σ H Q => ∃ t, PG X e t ∧ t v σ H Q
theorem pg_wp {e : Expr} : PG X e (wpG X e) := ⟨fun pins s σ H v u Q I r ⟨_, h, q⟩ => h.run pins s σ H v u Q I r q⟩
def wpI (X : Cx) (tg e : Expr) : TI := fun σ H R => ∃ t, PI X tg e t ∧ t σ H R
theorem pi_wp {tg e : Expr} : PI X tg e (wpI X tg e) := ⟨fun pins s σ H R I ⟨_, h, q⟩ => h.run pins s σ H R I q⟩
def wpOp (X : Cx) (f : Value → Value → Sem Value) : R2 := fun x y H Q => ∃ r, OpR X f r ∧ r x y H Q
theorem op_wp {f : Value → Value → Sem Value} : OpR X f (wpOp X f) := fun pins s σ H x y v u Q I rx ry ⟨_, h, q⟩ => h pins s σ H x y v u Q I rx ry q
def wpUn (X : Cx) (f : Value → Sem Value) : V → Hp → VK → Prop := fun x H Q => ∃ r, UnR X f r ∧ r x H Q
theorem un_wp {f : Value → Sem Value} : UnR X f (wpUn X f) := fun pins s σ H x v Q I rx ⟨_, h, q⟩ => h pins s σ H x v Q I rx q
def wpCa (X : Cx) (f : Value) : List V → Hp → VK → Prop := fun xs H Q => ∃ r, CallR X f r ∧ r xs H Q
theorem ca_wp {f : Value} : CallR X f (wpCa X f) := fun pins s σ H xs us Q I rx ⟨_, h, q⟩ => h pins s σ H xs us Q I rx q
end
end Pd

namespace Pd
open PySem L2

/-! ### sound readings -/
section
variable (X : Cx)
/-- what is wanted of a value that a piece hands on -/
def Kd (π : Addr) (N : Addr → Bool) (H : Hp) (Q : VK) : D → Prop := fun d => ∀ v H2, Ex π H H2 → Rv X.K X.prog X.w π (Hide N H2) v d → Q v H2
def Kl (π : Addr) (N : Addr → Bool) (H : Hp) (Q : VK) : List D → Prop := fun ds => ∀ l vs H2, Ex π H H2 → H l = none → H2 l = some (.lst vs) → RvL X.K X.prog X.w π (Hide (plus N l) H2) vs ds → Q (.ref l) H2
def Ka (π : Addr) (N : Addr → Bool) (H : Hp) (Q : List V → Hp → Prop) : List D → Prop := fun ds => ∀ vs H2, Ex π H H2 → RvL X.K X.prog X.w π (Hide N H2) vs ds → Q vs H2
def Snd (e : Expr) (m : Rho → T D) : Prop := ∀ ⦃π : Addr⦄ ⦃N0 : Addr → Bool⦄ ⦃H0 : Hp⦄ ⦃N : Addr → Bool⦄ ⦃H : Hp⦄ ⦃σ : L2.St⦄ ⦃ρ : Rho⦄ ⦃Q : VK⦄, EnvOk X.K X.prog X.w π N0 H0 N H σ ρ → (m ρ).all (Kd X π N H Q) → wpE X e σ H Q
/-- a new list -/
def SndL (e : Expr) (m : Rho → T (List D)) : Prop := ∀ ⦃π : Addr⦄ ⦃N0 : Addr → Bool⦄ ⦃H0 : Hp⦄ ⦃N : Addr → Bool⦄ ⦃H : Hp⦄ ⦃σ : L2.St⦄ ⦃ρ : Rho⦄ ⦃Q : VK⦄, EnvOk X.K X.prog X.w π N0 H0 N H σ ρ → (m ρ).all (Kl X π N H Q) → wpE X e σ H Q
def SndA (es : List Expr) (m : Rho → T (List D)) : Prop := ∀ ⦃π : Addr⦄ ⦃N0 : Addr → Bool⦄ ⦃H0 : Hp⦄ ⦃N : Addr → Bool⦄ ⦃H : Hp⦄ ⦃σ : L2.St⦄ ⦃ρ : Rho⦄ ⦃Q : List V → Hp → Prop⦄, EnvOk X.K X.prog X.w π N0 H0 N H σ ρ → (m ρ).all (Ka X π N H Q) → wpA X es σ H Q
def SndT (e : Expr) (m : Rho → T Bool) : Prop := ∀ ⦃π : Addr⦄ ⦃N0 : Addr → Bool⦄ ⦃H0 : Hp⦄ ⦃N : Addr → Bool⦄ ⦃H : Hp⦄ ⦃σ : L2.St⦄ ⦃ρ : Rho⦄ ⦃Q : Bool → Hp → Prop⦄, EnvOk X.K X.prog X.w π N0 H0 N H σ ρ → (m ρ).all (fun b => ∀ H2, Ex π H H2 → Q b H2) → wpT X e σ H Q
def SndW (e : Expr) (m : Rho → T Bool) : Prop := ∀ ⦃π : Addr⦄ ⦃N0 : Addr → Bool⦄ ⦃H0 : Hp⦄ ⦃N : Addr → Bool⦄ ⦃H : Hp⦄ ⦃σ : L2.St⦄ ⦃ρ : Rho⦄ ⦃Q : Bool → Hp → Prop⦄, EnvOk X.K X.prog X.w π N0 H0 N H σ ρ → (m ρ).all (fun b => ∀ H2, Ex π H H2 → Q b H2) → wpW X e σ H Q
def OpSnd (f : Value → Value → Sem Value) (m : D → D → T D) : Prop := ∀ ⦃π : Addr⦄ ⦃N : Addr → Bool⦄ ⦃H : Hp⦄ ⦃x y : V⦄ ⦃dx dy : D⦄ ⦃Q : VK⦄, HN π N H → Rv X.K X.prog X.w π (Hide N H) x dx → Rv X.K X.prog X.w π (Hide N H) y dy → (m dx dy).all (Kd X π N H Q) → wpOp X f x y H Q
def CaSnd (f : Value) (m : List D → T D) : Prop := ∀ ⦃π : Addr⦄ ⦃N : Addr → Bool⦄ ⦃H : Hp⦄ ⦃xs : List V⦄ ⦃ds : List D⦄ ⦃Q : VK⦄, HN π N H → RvL X.K X.prog X.w π (Hide N H) xs ds → (m ds).all (Kd X π N H Q) → wpCa X f xs H Q
def CaSndL (f : Value) (m : List D → T (List D)) : Prop := ∀ ⦃π : Addr⦄ ⦃N : Addr → Bool⦄ ⦃H : Hp⦄ ⦃xs : List V⦄ ⦃ds : List D⦄ ⦃Q : VK⦄, HN π N H → RvL X.K X.prog X.w π (Hide N H) xs ds → (m ds).all (Kl X π N H Q) → wpCa X f xs H Q
end

section
variable {X : Cx} {a b c e : Expr} {es : List Expr} {ma mb m : Rho → T D} {mt mu : Rho → T Bool} {pos : Pos}
theorem Kd.up {π : Addr} {N : Addr → Bool} {H H1 : Hp} {Q : VK} {d : D} (e : Ex π H H1) (h : Kd X π N H Q d) : Kd X π N H1 Q d := fun v H2 e2 r => h v H2 (e.trans e2) r
theorem Kl.up {π : Addr} {N : Addr → Bool} {H H1 : Hp} {Q : VK} {ds : List D} (e : Ex π H H1) (h : Kl X π N H Q ds) (pt : PotOk H π) : Kl X π N H1 Q ds := fun l vs H2 e2 n1 h2 r => h l vs H2 (e.trans e2) (by
  cases c : H l with
  | none => rfl
  | some o =>
    by_cases q : l = π
    · subst q
      exact absurd n1 (fun z => (e.pot.ne z) rfl)
    · rw [e.kp l o q c] at n1; cases n1) h2 r
theorem Ka.up {π : Addr} {N : Addr → Bool} {H H1 : Hp} {Q : List V → Hp → Prop} {ds : List D} (e : Ex π H H1) (h : Ka X π N H Q ds) : Ka X π N H1 Q ds := fun v H2 e2 r => h v H2 (e.trans e2) r

def eVar (i : Nat) : Rho → T D := fun ρ => match ρ[i]? with
  | some (.val d) => .ret d
  | _ => .fail
def eC (d : D) : Rho → T D := fun _ => .ret d
def eBin (f : D → D → T D) (ma mb : Rho → T D) : Rho → T D := fun ρ => (ma ρ).bind fun x => (mb ρ).bind fun y => f x y
def asB : D → T Bool
  | .bl b => .ret b
  | _ => .fail
def eTest (m : Rho → T D) : Rho → T Bool := fun ρ => (m ρ).bind asB
def tAnd' (mt mu : Rho → T Bool) : Rho → T Bool := fun ρ => (mt ρ).bind fun b => cond b (mu ρ) (.ret false)
def tOr' (mt mu : Rho → T Bool) : Rho → T Bool := fun ρ => (mt ρ).bind fun b => cond b (.ret true) (mu ρ)
def tNot' (mt : Rho → T Bool) : Rho → T Bool := fun ρ => (mt ρ).bind fun b => .ret (!b)
def eAnd (ma mb : Rho → T D) : Rho → T D := fun ρ => (ma ρ).bind fun d => (asB d).bind fun b => cond b (mb ρ) (.ret (.bl false))
def eOr (ma mb : Rho → T D) : Rho → T D := fun ρ => (ma ρ).bind fun d => (asB d).bind fun b => cond b (.ret (.bl true)) (mb ρ)
def eNot (ma : Rho → T D) : Rho → T D := fun ρ => (ma ρ).bind fun d => (asB d).bind fun b => .ret (.bl (!b))
def eIf (mt : Rho → T Bool) (ma mb : Rho → T D) : Rho → T D := fun ρ => (mt ρ).bind fun b => cond b (ma ρ) (mb ρ)
def aNil : Rho → T (List D) := fun _ => .ret []
def aCons (ma : Rho → T D) (ms : Rho → T (List D)) : Rho → T (List D) := fun ρ => (ma ρ).bind fun d => (ms ρ).bind fun ds => .ret (d :: ds)
def small (ds : List D) : Bool := decide (ds.length ≤ 100000)
def eTup (ms : Rho → T (List D)) : Rho → T D := fun ρ => (ms ρ).bind fun ds => cond (small ds) (.ret (.tup ds)) .fail
def lLst (ms : Rho → T (List D)) : Rho → T (List D) := fun ρ => (ms ρ).bind fun ds => cond (small ds) (.ret ds) .fail
def eL (ml : Rho → T (List D)) : Rho → T D := fun ρ => (ml ρ).bind fun ds => .ret (.lst ds)
def eCall (n : Nat) (F : List D → T D) (ms : Rho → T (List D)) : Rho → T D := fun ρ => (ms ρ).bind fun ds => cond (ds.length == n) (F ds) .fail
def eCa (f : List D → T D) (ms : Rho → T (List D)) : Rho → T D := fun ρ => (ms ρ).bind f
def lCa (f : List D → T (List D)) (ms : Rho → T (List D)) : Rho → T (List D) := fun ρ => (ms ρ).bind f

theorem asB_all {P : Bool → Prop} {d : D} (h : (asB d).all P) : ∃ b, d = .bl b ∧ P b := by
  cases d <;> first | exact ⟨_, rfl, h⟩ | exact False.elim h
theorem Rv.bool {K : PySem.W.Frag} {P : Program} {w : World} {π : Addr} {H : Hp} {v : V} {b : Bool} (r : Rv K P w π H v (.bl b)) : v = .bl b := by cases r; rfl
theorem Rv.intE {K : PySem.W.Frag} {P : Program} {w : World} {π : Addr} {H : Hp} {v : V} {i : Int} (r : Rv K P w π H v (.int i)) : v = .int i := by cases r; rfl
theorem Rv.tupE {K : PySem.W.Frag} {P : Program} {w : World} {π : Addr} {N : Addr → Bool} {H : Hp} {v : V} {ds : List D} (r : Rv K P w π (Hide N H) v (.tup ds)) : ∃ a vs, v = .ref a ∧ SqT K H a vs ∧ RvL K P w π (Hide N H) vs ds := by
  cases r with
  | tup h n r => exact ⟨_, _, rfl, .inl (.inl (hide_some h).2), r⟩
  | tupK h r => exact ⟨_, _, rfl, h _, r⟩
theorem Rv.lstE {K : PySem.W.Frag} {P : Program} {w : World} {π : Addr} {N : Addr → Bool} {H : Hp} {v : V} {ds : List D} (r : Rv K P w π (Hide N H) v (.lst ds)) : ∃ a vs, v = .ref a ∧ H a = some (.lst vs) ∧ N a = false ∧ a ≠ π ∧ RvL K P w π (Hide N H) vs ds := by
  cases r with
  | lst h n r => exact ⟨_, _, rfl, (hide_some h).2, (hide_some h).1, n, r⟩

theorem sv (i : Nat) {x : Str} {pos : Pos} (hN : X.N[i]? = some x := by rfl) (hv : Vis X.env.scope x := by first | exact Or.inl rfl | exact Or.inr (Or.inl rfl) | exact Or.inr (Or.inr rfl)) (hd : (x == ("__debug__" : Str)) = false := by decide)
    (hcd : (x == ("__classdict__" : Str)) = false := by decide) : Snd X (.Name x pos) (eVar i) := fun {π N0 H0 N H σ ρ Q} I h => by
  unfold eVar at h
  split at h
  · obtain ⟨v, hs, r⟩ := I.val i _ (by assumption)
    exact ⟨_, pe_var hN hv hd hcd, v, hs, h v H (Ex.refl I.hn.pot) r⟩
  · exact False.elim h
theorem s_int {i j} : Snd X (.Constant (.int i) j pos) (eC (.int i)) := fun {_ _ _ _ _ _ _ _} I h => ⟨_, pe_int, h _ _ (Ex.refl I.hn.pot) (.int i)⟩
theorem s_bl {b j} : Snd X (.Constant (.bool b) j pos) (eC (.bl b)) := fun {_ _ _ _ _ _ _ _} I h => ⟨_, pe_bl, h _ _ (Ex.refl I.hn.pot) (.bl b)⟩
theorem s_non {j} : Snd X (.Constant .none j pos) (eC .non) := fun {_ _ _ _ _ _ _ _} I h => ⟨_, pe_non, h _ _ (Ex.refl I.hn.pot) .non⟩
theorem s_str {x j} : Snd X (.Constant (.str x) j pos) (eC (.str x)) := fun {_ _ _ _ _ _ _ _} I h => ⟨_, pe_str, h _ _ (Ex.refl I.hn.pot) (.str x)⟩
/-- a constant of the module -/
theorem s_glob {x : Str} {v : V} {u : Value} {d : D} (hg : Gl X x) (hm : X.mg x = some u) (r : RelV v u) (rv : ∀ π H, Rv X.K X.prog X.w π H v d) (hd : (x == ("__debug__" : Str)) = false := by decide) : Snd X (.Name x pos) (eC d) := fun {_ _ _ _ _ _ _ _} I h => ⟨_, pe_glob hg hm r hd, h _ _ (Ex.refl I.hn.pot) (rv _ _)⟩

theorem two {f : D → D → T D} {g : Value → Value → Sem Value} (ho : OpSnd X g f) (ha : Snd X a ma) (hb : Snd X b mb) {π : Addr} {N0 : Addr → Bool} {H0 : Hp} {N : Addr → Bool} {H : Hp} {σ : L2.St} {ρ : Rho} {Q : VK}
    (I : EnvOk X.K X.prog X.w π N0 H0 N H σ ρ) (h : (eBin f ma mb ρ).all (Kd X π N H Q)) : tOp (wpOp X g) (wpE X a) (wpE X b) σ H Q := by
  refine ha I (T.all_mono (fun dx hx => ?_) (T.all_bind.mp h))
  intro v H1 e1 r1
  refine hb (I.ext e1) (T.all_mono (fun dy hy => ?_) (T.all_bind.mp hx))
  intro u H2 e2 r2
  exact ho (I.hn.ext (e1.trans e2)) (r1.mono e2.kp.hide) r2 (T.all_mono (fun _ hd => hd.up (e1.trans e2)) hy)
theorem s_bin {op : Operator} {f : D → D → T D} (ho : OpSnd X (binaryOp op) f) (ha : Snd X a ma) (hb : Snd X b mb) : Snd X (.BinOp a op b pos) (eBin f ma mb) := fun {_ _ _ _ _ _ _ _} I h => ⟨_, pe_op op_wp pe_wp pe_wp, two ho ha hb I h⟩
theorem s_cmp {op : CmpOp} {f : D → D → T D} (ho : OpSnd X (compareOp op) f) (ha : Snd X a ma) (hb : Snd X b mb) (hm : behindInMarks op b = false) : Snd X (.Compare a [op] [b] pos) (eBin f ma mb) := fun {_ _ _ _ _ _ _ _} I h => ⟨_, pe_cmpR op_wp pe_wp pe_wp hm, two ho ha hb I h⟩
theorem Kd.test {π : Addr} {N : Addr → Bool} {H : Hp} {Q : Bool → Hp → Prop} {d : D} (h : (asB d).all fun b => ∀ H2, Ex π H H2 → Q b H2) : Kd X π N H (fun x H' => ∃ k, x = .bl k ∧ Q k H') d := fun v H2 e r => by
  obtain ⟨b, rfl, q⟩ := asB_all h
  exact ⟨b, r.bool, q H2 e⟩
theorem st_cmp {op : CmpOp} {f : D → D → T D} (ho : OpSnd X (compareOp op) f) (ha : Snd X a ma) (hb : Snd X b mb) (hm : behindInMarks op b = false) : SndT X (.Compare a [op] [b] pos) (eTest (eBin f ma mb)) := fun {_ _ _ _ _ _ _ _} I h =>
  ⟨_, pt_cmpR op_wp pe_wp pe_wp hm, two ho ha hb I (T.all_mono (fun _ h => Kd.test h) (T.all_bind.mp h))⟩
theorem st_val (ha : Snd X a m) (he : ∀ whole, isTrue a X.env whole = (do let v ← whole; standAt a.pos; holding [v] (truthy v)) := by intro _; rfl) : SndT X a (eTest m) := fun {_ _ _ _ _ _ _ _} I h =>
  ⟨_, pt_val pe_wp he, ha I (T.all_mono (fun _ h => Kd.test h) (T.all_bind.mp h))⟩
theorem st_not (ha : SndT X a mt) : SndT X (.UnaryOp .Not a pos) (tNot' mt) := fun {_ _ _ _ _ _ _ _} I h => ⟨_, pt_not pt_wp, ha I (T.all_bind.mp h)⟩
theorem sw_and1 (ha : SndT X a mt) : SndW X (.BoolOp .And [a] pos) mt := fun {_ _ _ _ _ _ _ _} I h => ⟨_, pw_and1 pt_wp, ha I h⟩
theorem sw_or1 (ha : SndT X a mt) : SndW X (.BoolOp .Or [a] pos) mt := fun {_ _ _ _ _ _ _ _} I h => ⟨_, pw_or1 pt_wp, ha I h⟩
theorem sw_and {rest : List Expr} (ha : SndT X a mt) (hb : SndW X (.BoolOp .And (b :: rest) pos) mu) : SndW X (.BoolOp .And (a :: b :: rest) pos) (tAnd' mt mu) := fun {_ _ _ _ _ _ _ _} I h =>
  ⟨_, pw_and pt_wp pw_wp, ha I (T.all_mono (fun k hk H2 e => by
    cases k with
    | true => exact iteT (hb (I.ext e) (T.all_mono (fun _ q H3 e3 => q H3 (e.trans e3)) hk))
    | false => exact iteF (hk H2 e)) (T.all_bind.mp h))⟩
theorem sw_or {rest : List Expr} (ha : SndT X a mt) (hb : SndW X (.BoolOp .Or (b :: rest) pos) mu) : SndW X (.BoolOp .Or (a :: b :: rest) pos) (tOr' mt mu) := fun {_ _ _ _ _ _ _ _} I h =>
  ⟨_, pw_or pt_wp pw_wp, ha I (T.all_mono (fun k hk H2 e => by
    cases k with
    | true => exact iteT (hk H2 e)
    | false => exact iteF (hb (I.ext e) (T.all_mono (fun _ q H3 e3 => q H3 (e.trans e3)) hk))) (T.all_bind.mp h))⟩
theorem st_w (h : SndW X a mt) : SndT X a mt := fun {_ _ _ _ _ _ _ _} I q => ⟨_, pw_wp.pt, h I q⟩
theorem s_one {op} (ha : Snd X a m) : Snd X (.BoolOp op [a] pos) m := fun {_ _ _ _ _ _ _ _} I h => ⟨_, pe_one pe_wp, ha I h⟩
theorem s_and {rest : List Expr} (ha : Snd X a ma) (hb : Snd X (.BoolOp .And (b :: rest) pos) mb) : Snd X (.BoolOp .And (a :: b :: rest) pos) (eAnd ma mb) := fun {_ _ _ _ _ _ _ _} I h =>
  ⟨_, pe_and pe_wp pe_wp, ha I (T.all_mono (fun d hd v H2 e r => by
    obtain ⟨k, rfl, q⟩ := asB_all (T.all_bind.mp hd)
    refine ⟨k, r.bool, ?_⟩
    cases k with
    | true => exact iteT (hb (I.ext e) (T.all_mono (fun _ q => q.up e) q))
    | false => exact iteF (q _ H2 e (.bl false))) (T.all_bind.mp h))⟩
theorem s_or {rest : List Expr} (ha : Snd X a ma) (hb : Snd X (.BoolOp .Or (b :: rest) pos) mb) : Snd X (.BoolOp .Or (a :: b :: rest) pos) (eOr ma mb) := fun {_ _ _ _ _ _ _ _} I h =>
  ⟨_, pe_or pe_wp pe_wp, ha I (T.all_mono (fun d hd v H2 e r => by
    obtain ⟨k, rfl, q⟩ := asB_all (T.all_bind.mp hd)
    refine ⟨k, r.bool, ?_⟩
    cases k with
    | true => exact iteT (q _ H2 e (.bl true))
    | false => exact iteF (hb (I.ext e) (T.all_mono (fun _ q => q.up e) q))) (T.all_bind.mp h))⟩
theorem s_not (ha : Snd X a ma) : Snd X (.UnaryOp .Not a pos) (eNot ma) := fun {_ _ _ _ _ _ _ _} I h =>
  ⟨_, pe_not pe_wp, ha I (T.all_mono (fun d hd v H2 e r => by
    obtain ⟨k, rfl, q⟩ := asB_all (T.all_bind.mp hd)
    exact ⟨k, r.bool, q _ H2 e (.bl _)⟩) (T.all_bind.mp h))⟩
theorem s_if (hc : SndT X c mt) (ha : Snd X a ma) (hb : Snd X b mb) : Snd X (.IfExp c a b pos) (eIf mt ma mb) := fun {_ _ _ _ _ _ _ _} I h =>
  ⟨_, pe_ifExp pt_wp pe_wp pe_wp, hc I (T.all_mono (fun k hk H2 e => by
    cases k with
    | true => exact iteT (ha (I.ext e) (T.all_mono (fun _ q => q.up e) hk))
    | false => exact iteF (hb (I.ext e) (T.all_mono (fun _ q => q.up e) hk))) (T.all_bind.mp h))⟩

/-! ### argument lists, displays, calls -/
theorem sa_nil : SndA X [] aNil := fun {_ _ _ _ _ _ _ _} I h => ⟨_, pa_nil, h _ _ (Ex.refl I.hn.pot) .nil⟩
theorem sa_cons {ms : Rho → T (List D)} (ha : Snd X e m) (hr : SndA X es ms) (hs : starEach (e :: es) X.env = (false, eval e X.env) :: starEach es X.env := by rfl) : SndA X (e :: es) (aCons m ms) := fun {_ _ _ _ _ _ _ _} I h =>
  ⟨_, pa_cons pe_wp pa_wp hs, by
    refine ha I (T.all_mono (fun dx hx => ?_) (T.all_bind.mp h))
    intro v H1 e1 r1
    refine hr (I.ext e1) (T.all_mono (fun dy hy => ?_) (T.all_bind.mp hx))
    intro vs H2 e2 r2
    exact hy _ _ (e1.trans e2) (.cons (r1.mono e2.kp.hide) r2)⟩
theorem small_ok {K : PySem.W.Frag} {P : Program} {w : World} {π : Addr} {H : Hp} {vs : List V} {ds : List D} (r : RvL K P w π H vs ds) (h : small ds = true) : vs.length ≤ sizeLine := by
  rw [r.length]
  exact Nat.le_trans (of_decide_eq_true h) (by decide)
theorem cond_all {α : Type} {P : α → Prop} {b : Bool} {t : T α} (h : (cond b t .fail).all P) : b = true ∧ t.all P := by
  cases b with
  | true => exact ⟨rfl, h⟩
  | false => exact False.elim h
theorem s_tup {x1 ms} (h : SndA X es ms) : Snd X (.Tuple es x1 pos) (eTup ms) := fun {π N0 H0 N H σ ρ Q} I q => ⟨_, pe_tup pa_wp, h I (T.all_mono (fun ds hd vs H2 e r => by
  obtain ⟨hs, hd⟩ := cond_all hd
  refine ⟨small_ok r hs, fun p hp => ?_⟩
  have np := (I.hn.ext e).new hp
  exact hd _ _ (e.trans (Ex.new e.pot hp)) (.tup (hide_new np) (e.pot.ne hp) (r.mono (Ex.new e.pot hp).kp.hide))) (T.all_bind.mp q))⟩
theorem sl_lst {ms} (h : SndA X es ms) : SndL X (.List es pos) (lLst ms) := fun {π N0 H0 N H σ ρ Q} I q => ⟨_, pe_lst pa_wp, h I (T.all_mono (fun ds hd vs H2 e r => by
  obtain ⟨hs, hd⟩ := cond_all hd
  refine ⟨small_ok r hs, fun p hp => ?_⟩
  have hp0 : H p = none := by
    cases c : H p with
    | none => rfl
    | some o => rw [e.kp p o (e.pot.ne hp) c] at hp; cases hp
  exact hd p vs _ (e.trans (Ex.new e.pot hp)) hp0 upd_same (r.mono ((Ex.new e.pot hp).hidden hp))) (T.all_bind.mp q))⟩
/-- a new list as a value -/
theorem s_ofL {ml : Rho → T (List D)} (h : SndL X e ml) : Snd X e (eL ml) := fun {π N0 H0 N H σ ρ Q} I q => h I (T.all_mono (fun ds hd l vs H2 e n h2 r => by
  have lpi := I.hn.pot.ne n
  have nl : N l = false := I.hn.new n
  exact hd (.ref l) H2 e (.lst (by rw [hide_in nl]; exact h2) lpi (r.mono (Kp.less fun a h => plus_old h)))) (T.all_bind.mp q))

/-! ### what a def promises -/
end
def spD (K : PySem.W.Frag) (P : Program) (w : World) (n : Nat) (F : List D → T D) : Sp := fun vs H Q _ => ∃ (π : Addr) (N : Addr → Bool) (ds : List D), HN π N H ∧ RvL K P w π (Hide N H) vs ds ∧ vs.length = n ∧
  (F ds).all fun d => ∀ v H', Ex π H H' → Rv K P w π (Hide N H') v d → Q v H'
section
variable {X : Cx} {a b c e : Expr} {es : List Expr} {ma mb m : Rho → T D} {mt mu : Rho → T Bool} {pos : Pos}
theorem s_call {k n : Nat} {f : Addr} {fd : FuncData} {ps : List Str} {F : List D → T D} {x : Str} {p : Pos} {ms : Rho → T (List D)} (G : FnOk X.prog X.w X.K X.mg X.base CX0 k f fd ps (spD X.K X.prog X.w n F)) (hr : Room k X.A) (hm : X.mg x = some (.ref f)) (hk : PySem.W.keepIn X.K (.ref f) = true) (hb : Binds X.K fd ps [])
    (ha : SndA X (e :: es) ms) (hg : Gl X x := by rfl) (hdb : (x == ("__debug__" : Str)) = false := by decide) (he : starEach (e :: es) X.env = (false, eval e X.env) :: starEach es X.env := by rfl) (hpl : (backTo pos (starEach es X.env)).any (·.1) = false := by rfl) :
    Snd X (.Call (.Name x p) (e :: es) [] pos) (eCall n F ms) := fun {π N0 H0 N H σ ρ Q} I h =>
  ⟨_, pe_call G hr hg hm hk hb .nil pass0 pa_wp hdb he hpl, ha I (T.all_mono (fun ds hd vs H2 e1 r => by
    obtain ⟨hn, hd⟩ := cond_all hd
    show spD X.K X.prog X.w n F (vs ++ []) H2 Q E0
    rw [List.append_nil]
    exact ⟨π, N, ds, I.hn.ext e1, r, by rw [r.length]; exact by simpa using hn, T.all_mono (fun d q v H3 e3 r3 => q v H3 (e1.trans e3) r3) hd⟩) (T.all_bind.mp h))⟩
theorem s_callB {id : String} {f : List D → T D} {x : Str} {p : Pos} {ms : Rho → T (List D)} (hc : CaSnd X (.builtin id) f) (hm : X.mg x = none) (hv : bootBuiltins x = some (.builtin id)) (ha : SndA X (e :: es) ms) (hg : Gl X x := by rfl) (hn : x ≠ "__name__" := by decide) (hdb : (x == ("__debug__" : Str)) = false := by decide)
    (he : starEach (e :: es) X.env = (false, eval e X.env) :: starEach es X.env := by rfl) (hpl : (backTo pos (starEach es X.env)).any (·.1) = false := by rfl) : Snd X (.Call (.Name x p) (e :: es) [] pos) (eCa f ms) := fun {_ _ _ _ _ _ _ _} I h =>
  ⟨_, pe_callB ca_wp hg hm hv pa_wp hn hdb he hpl, ha I (T.all_mono (fun ds hd vs H2 e1 r => hc (I.hn.ext e1) r (T.all_mono (fun _ q => q.up e1) hd)) (T.all_bind.mp h))⟩
theorem s_callTy {id : String} {f : List D → T D} {x : Str} {p : Pos} {ms : Rho → T (List D)} (hc : CaSnd X (.type id) f) (hm : X.mg x = none) (hv : bootBuiltins x = some (.type id)) (ha : SndA X (e :: es) ms) (hg : Gl X x := by rfl) (hn : x ≠ "__name__" := by decide) (hdb : (x == ("__debug__" : Str)) = false := by decide)
    (he : starEach (e :: es) X.env = (false, eval e X.env) :: starEach es X.env := by rfl) (hpl : (backTo pos (starEach es X.env)).any (·.1) = false := by rfl) : Snd X (.Call (.Name x p) (e :: es) [] pos) (eCa f ms) := fun {_ _ _ _ _ _ _ _} I h =>
  ⟨_, pe_callTy ca_wp hg hm hv pa_wp hn hdb he hpl, ha I (T.all_mono (fun ds hd vs H2 e1 r => hc (I.hn.ext e1) r (T.all_mono (fun _ q => q.up e1) hd)) (T.all_bind.mp h))⟩
theorem sl_callB {id : String} {f : List D → T (List D)} {x : Str} {p : Pos} {ms : Rho → T (List D)} (hc : CaSndL X (.builtin id) f) (hm : X.mg x = none) (hv : bootBuiltins x = some (.builtin id)) (ha : SndA X (e :: es) ms) (hg : Gl X x := by rfl) (hn : x ≠ "__name__" := by decide) (hdb : (x == ("__debug__" : Str)) = false := by decide)
    (he : starEach (e :: es) X.env = (false, eval e X.env) :: starEach es X.env := by rfl) (hpl : (backTo pos (starEach es X.env)).any (·.1) = false := by rfl) : SndL X (.Call (.Name x p) (e :: es) [] pos) (lCa f ms) := fun {_ _ _ _ _ _ _ _} I h =>
  ⟨_, pe_callB ca_wp hg hm hv pa_wp hn hdb he hpl, ha I (T.all_mono (fun ds hd vs H2 e1 r => hc (I.hn.ext e1) r (T.all_mono (fun _ q => q.up e1 I.hn.pot) hd)) (T.all_bind.mp h))⟩
theorem sl_callTy {id : String} {f : List D → T (List D)} {x : Str} {p : Pos} {ms : Rho → T (List D)} (hc : CaSndL X (.type id) f) (hm : X.mg x = none) (hv : bootBuiltins x = some (.type id)) (ha : SndA X (e :: es) ms) (hg : Gl X x := by rfl) (hn : x ≠ "__name__" := by decide) (hdb : (x == ("__debug__" : Str)) = false := by decide)
    (he : starEach (e :: es) X.env = (false, eval e X.env) :: starEach es X.env := by rfl) (hpl : (backTo pos (starEach es X.env)).any (·.1) = false := by rfl) : SndL X (.Call (.Name x p) (e :: es) [] pos) (lCa f ms) := fun {_ _ _ _ _ _ _ _} I h =>
  ⟨_, pe_callTy ca_wp hg hm hv pa_wp hn hdb he hpl, ha I (T.all_mono (fun ds hd vs H2 e1 r => hc (I.hn.ext e1) r (T.all_mono (fun _ q => q.up e1 I.hn.pot) hd)) (T.all_bind.mp h))⟩
end
end Pd

namespace Pd
open PySem L2

mutual
theorem Rv.dp {K : PySem.W.Frag} {P : Program} {w : World} {π : Addr} {N : Addr → Bool} {H : Hp} : ∀ {d : D} {v : V} {p : PyData}, Rv K P w π (Hide N H) v d → d.py = some p → Dp K H v p
  | _, _, _, .non, h => by cases h; exact .non
  | _, _, _, .bl b, h => by cases h; exact .bl b
  | _, _, _, .int b, h => by cases h; exact .int b
  | _, _, _, .str b, h => by cases h; exact .str b
  | .tup ds, _, p, .tup a n r, h => by
    unfold D.py at h
    cases q : D.pys ds with
    | none => rw [q] at h; cases h
    | some ks => rw [q] at h; cases h; exact .tup (.inl (.inl (hide_some a).2)) (RvL.dp r q)
  | .tup ds, _, p, .tupK a r, h => by
    unfold D.py at h
    cases q : D.pys ds with
    | none => rw [q] at h; cases h
    | some ks => rw [q] at h; cases h; exact .tup (a _) (RvL.dp r q)
  | .lst ds, _, p, .lst a n r, h => by
    unfold D.py at h
    cases q : D.pys ds with
    | none => rw [q] at h; cases h
    | some ks => rw [q] at h; cases h; exact .lst (.inl (.inl (hide_some a).2)) (RvL.dp r q)
  | .dic _, _, _, .dic _ _ _, h => by unfold D.py at h; cases h
  | .pot, _, _, .pot, h => by unfold D.py at h; cases h
theorem RvL.dp {K : PySem.W.Frag} {P : Program} {w : World} {π : Addr} {N : Addr → Bool} {H : Hp} : ∀ {ds : List D} {vs : List V} {ps : List PyData}, RvL K P w π (Hide N H) vs ds → D.pys ds = some ps → DpAll K H vs ps
  | _, _, _, .nil, h => by unfold D.pys at h; cases h; exact .nil
  | d :: ds, _, ps, .cons r t, h => by
    unfold D.pys at h
    cases q : D.py d with
    | none => rw [q] at h; cases h
    | some k =>
      rw [q] at h
      cases q2 : D.pys ds with
      | none => rw [q2] at h; cases h
      | some ks => rw [q2] at h; cases h; exact .cons (Rv.dp r q) (RvL.dp t q2)
end

/-! ### operators by values -/
def opAdd : D → D → T D
  | .int i, .int j => .ret (.int (i + j))
  | .tup a, .tup b => cond (small (a ++ b)) (.ret (.tup (a ++ b))) .fail
  | .lst a, .lst b => cond (small (a ++ b)) (.ret (.lst (a ++ b))) .fail
  | .str x, .str y => cond (decide (x.length + y.length ≤ 100000)) (.ret (.str (x ++ y))) .fail
  | _, _ => .fail
def opSub : D → D → T D
  | .int i, .int j => .ret (.int (i - j))
  | _, _ => .fail
def lim64 (i : Int) : Bool := decide (-(2 ^ 64) < i) && decide (i < 2 ^ 64)
def rep (k : Nat) (a : List D) : List D := match k with
  | 0 => []
  | k + 1 => a ++ rep k a
def opMul : D → D → T D
  | .int i, .int j => cond (lim64 i || lim64 j) (.ret (.int (i * j))) .fail
  | .tup a, .int k => cond (decide (2 ≤ k) && decide (k ≤ 1000) && decide (a.length ≤ 100) && !a.isEmpty) (.ret (.tup (rep k.toNat a))) .fail
  | _, _ => .fail
def opFDiv : D → D → T D
  | .int i, .int j => cond (decide (0 < j) && decide (j < 1073741824)) (.ret (.int (i / j))) .fail
  | _, _ => .fail
def opMod : D → D → T D
  | .int i, .int j => cond (decide (0 < j)) (.ret (.int (i % j))) .fail
  | _, _ => .fail
def opPow : D → D → T D
  | .int i, .int j => cond (decide (0 ≤ j) && decide (j ≤ 1000) && decide (i.natAbs < 2 ^ 64)) (.ret (.int (i ^ j.toNat))) .fail
  | _, _ => .fail
def opI (f : Int → Int → Bool) : D → D → T D
  | .int i, .int j => .ret (.bl (f i j))
  | _, _ => .fail
def opLt := opI fun i j => decide (i < j)
def opLe := opI fun i j => decide (i ≤ j)
def opGt := opI fun i j => decide (j < i)
def opGe := opI fun i j => decide (j ≤ i)
def eqD (x y : D) : Option Bool := match x.py, y.py with
  | some p, some q => cond (SeqAt.shaped p && SeqAt.shaped q) (some (PyData.eqv p q)) none
  | _, _ => none
def opEq (x y : D) : T D := match eqD x y with
  | some b => .ret (.bl b)
  | none => .fail
def opNe (x y : D) : T D := match eqD x y with
  | some b => .ret (.bl (!b))
  | none => .fail
theorem eqD_some {x y : D} {b : Bool} (h : eqD x y = some b) : ∃ p q, x.py = some p ∧ y.py = some q ∧ SeqAt.shaped p = true ∧ SeqAt.shaped q = true ∧ PyData.eqv p q = b := by
  unfold eqD at h
  split at h
  · rename_i p q hp hq
    refine ⟨p, q, hp, hq, ?_⟩
    cases c : SeqAt.shaped p && SeqAt.shaped q with
    | false => rw [c] at h; cases h
    | true =>
      rw [c] at h
      have := Bool.and_eq_true_iff.mp c
      exact ⟨this.1, this.2, Option.some.inj h⟩
  · cases h

section
variable {X : Cx}
theorem Kd.new {π : Addr} {N : Addr → Bool} {H : Hp} {Q : VK} {vs : List V} {ds : List D} {p : Addr} (h : Kd X π N H Q (.tup ds)) (hn : HN π N H) (r : RvL X.K X.prog X.w π (Hide N H) vs ds) (hp : H p = none) : Q (.ref p) (upd H p (.tup vs)) :=
  h _ _ (Ex.new hn.pot hp) (.tup (hide_new (hn.new hp)) (hn.pot.ne hp) (r.mono (Ex.new hn.pot hp).kp.hide))
theorem Kd.newL {π : Addr} {N : Addr → Bool} {H : Hp} {Q : VK} {vs : List V} {ds : List D} {p : Addr} (h : Kd X π N H Q (.lst ds)) (hn : HN π N H) (r : RvL X.K X.prog X.w π (Hide N H) vs ds) (hp : H p = none) : Q (.ref p) (upd H p (.lst vs)) :=
  h _ _ (Ex.new hn.pot hp) (.lst (hide_new (hn.new hp)) (hn.pot.ne hp) (r.mono (Ex.new hn.pot hp).kp.hide))
theorem Kl.new {π : Addr} {N : Addr → Bool} {H : Hp} {Q : VK} {vs : List V} {ds : List D} {p : Addr} (h : Kl X π N H Q ds) (hn : HN π N H) (r : RvL X.K X.prog X.w π (Hide N H) vs ds) (hp : H p = none) : Q (.ref p) (upd H p (.lst vs)) :=
  h p vs _ (Ex.new hn.pot hp) hp upd_same (r.mono ((Ex.new hn.pot hp).hidden hp))
theorem RvL.nil_of {K : PySem.W.Frag} {P : Program} {w : World} {π : Addr} {H : Hp} {vs : List V} {ds : List D} (r : RvL K P w π H vs ds) : vs = [] ↔ ds = [] := by
  cases r with
  | nil => simp
  | cons _ _ => simp
theorem os_add : OpSnd X (binaryOp .Add) opAdd := fun {π N H x y dx dy Q} hn rx ry h => by
  unfold opAdd at h
  split at h
  · cases rx; cases ry
    exact ⟨_, op_add, _, _, rfl, rfl, h _ _ (Ex.refl hn.pot) (.int _)⟩
  · obtain ⟨hs, h⟩ := cond_all h
    obtain ⟨a, vs, rfl, ha, ra⟩ := rx.tupE
    obtain ⟨b, us, rfl, hb, rb⟩ := ry.tupE
    have hz : vs.length + us.length ≤ sizeLine := by
      have := small_ok (ra.append rb) hs
      rw [List.length_append] at this
      exact this
    refine ⟨_, op_catA, a, b, vs, us, rfl, rfl, ha, hb, hz, fun e => ?_, fun ne e => ?_, fun ne ne2 p hp => ?_⟩
    · have e' := ra.nil_of.mp e
      refine h _ _ (Ex.refl hn.pot) ?_
      rw [e', List.nil_append]
      exact ry
    · have e' := rb.nil_of.mp e
      refine h _ _ (Ex.refl hn.pot) ?_
      rw [e', List.append_nil]
      exact rx
    · exact Kd.new h hn (ra.append rb) hp
  · obtain ⟨hs, h⟩ := cond_all h
    obtain ⟨a, vs, rfl, ha, _, _, ra⟩ := rx.lstE
    obtain ⟨b, us, rfl, hb, _, _, rb⟩ := ry.lstE
    have hz : vs.length + us.length ≤ sizeLine := by
      have := small_ok (ra.append rb) hs
      rw [List.length_append] at this
      exact this
    exact ⟨_, op_cat, a, b, vs, us, rfl, rfl, ha, hb, hz, fun p hp => Kd.newL h hn (ra.append rb) hp⟩
  · obtain ⟨hs, h⟩ := cond_all h
    cases rx; cases ry
    exact ⟨_, op_add_str, _, _, rfl, rfl, Nat.le_trans (of_decide_eq_true hs) (by decide), h _ _ (Ex.refl hn.pot) (.str _)⟩
  · exact False.elim h
theorem os_sub : OpSnd X (binaryOp .Sub) opSub := fun {π N H x y dx dy Q} hn rx ry h => by
  unfold opSub at h
  split at h
  · cases rx; cases ry
    exact ⟨_, op_sub, _, _, rfl, rfl, h _ _ (Ex.refl hn.pot) (.int _)⟩
  · exact False.elim h
theorem rep_rv {K : PySem.W.Frag} {P : Program} {w : World} {π : Addr} {H : Hp} {vs : List V} {ds : List D} (r : RvL K P w π H vs ds) : ∀ k : Nat, RvL K P w π H (List.replicate k vs).flatten (rep k ds)
  | 0 => .nil
  | k + 1 => by
    show RvL K P w π H (List.replicate (k + 1) vs).flatten (ds ++ rep k ds)
    rw [List.replicate_succ, List.flatten_cons]
    exact r.append (rep_rv r k)
theorem os_mul : OpSnd X (binaryOp .Mult) opMul := fun {π N H x y dx dy Q} hn rx ry h => by
  unfold opMul at h
  split at h
  · cases rx; cases ry
    obtain ⟨hs, h⟩ := cond_all h
    refine ⟨_, op_mul, _, _, rfl, rfl, ?_, h _ _ (Ex.refl hn.pot) (.int _)⟩
    unfold lim64 at hs
    simp only [Bool.or_eq_true, Bool.and_eq_true, decide_eq_true_eq] at hs
    exact hs
  · obtain ⟨hs, h⟩ := cond_all h
    obtain ⟨a, vs, rfl, ha, ra⟩ := rx.tupE
    cases ry
    simp only [Bool.and_eq_true, decide_eq_true_eq, Bool.not_eq_true'] at hs
    obtain ⟨⟨⟨h1, h2⟩, h3⟩, h4⟩ := hs
    refine ⟨_, op_repT, a, _, vs, rfl, rfl, ha, fun e => ?_, h1, h2, by rw [ra.length]; omega, fun p hp => Kd.new h hn (rep_rv ra _) hp⟩
    rw [ra.nil_of.mp e] at h4
    cases h4
  · exact False.elim h
theorem os_fdiv : OpSnd X (binaryOp .FloorDiv) opFDiv := fun {π N H x y dx dy Q} hn rx ry h => by
  unfold opFDiv at h
  split at h
  · cases rx; cases ry
    obtain ⟨hs, h⟩ := cond_all h
    simp only [Bool.and_eq_true, decide_eq_true_eq] at hs
    exact ⟨_, op_fdiv, _, _, rfl, rfl, hs, h _ _ (Ex.refl hn.pot) (.int _)⟩
  · exact False.elim h
theorem os_mod : OpSnd X (binaryOp .Mod) opMod := fun {π N H x y dx dy Q} hn rx ry h => by
  unfold opMod at h
  split at h
  · cases rx; cases ry
    obtain ⟨hs, h⟩ := cond_all h
    simp only [decide_eq_true_eq] at hs
    exact ⟨_, op_mod, _, _, rfl, rfl, hs, h _ _ (Ex.refl hn.pot) (.int _)⟩
  · exact False.elim h
theorem os_pow : OpSnd X (binaryOp .Pow) opPow := fun {π N H x y dx dy Q} hn rx ry h => by
  unfold opPow at h
  split at h
  · cases rx; cases ry
    obtain ⟨hs, h⟩ := cond_all h
    simp only [Bool.and_eq_true, decide_eq_true_eq] at hs
    exact ⟨_, op_pow, _, _, rfl, rfl, ⟨hs.1.1, by omega, hs.2⟩, h _ _ (Ex.refl hn.pot) (.int _)⟩
  · exact False.elim h
theorem os_I {g : Value → Value → Sem Value} {f : Int → Int → Bool} (hr : OpR X g (rI0 fun i j => .bl (f i j))) : OpSnd X g (opI f) := fun {π N H x y dx dy Q} hn rx ry h => by
  unfold opI at h
  split at h
  · cases rx; cases ry
    exact ⟨_, hr, _, _, rfl, rfl, h _ _ (Ex.refl hn.pot) (.bl _)⟩
  · exact False.elim h
theorem os_lt : OpSnd X (compareOp .Lt) opLt := os_I op_lt
theorem os_le : OpSnd X (compareOp .LtE) opLe := os_I op_le
theorem os_gt : OpSnd X (compareOp .Gt) opGt := os_I op_gt
theorem os_ge : OpSnd X (compareOp .GtE) opGe := os_I op_ge
theorem os_eq (hu : X.A.units + 64 < cLine) : OpSnd X (compareOp .Eq) opEq := fun {π N H x y dx dy Q} hn rx ry h => by
  unfold opEq at h
  split at h
  · rename_i b e
    obtain ⟨p, q, hp, hq, sp, sq, rfl⟩ := eqD_some e
    exact ⟨_, op_eqD hu, p, q, rx.dp hp, ry.dp hq, sp, sq, h _ _ (Ex.refl hn.pot) (.bl _)⟩
  · exact False.elim h
theorem os_ne (hu : X.A.units + 64 < cLine) : OpSnd X (compareOp .NotEq) opNe := fun {π N H x y dx dy Q} hn rx ry h => by
  unfold opNe at h
  split at h
  · rename_i b e
    obtain ⟨p, q, hp, hq, sp, sq, rfl⟩ := eqD_some e
    exact ⟨_, op_neD hu, p, q, rx.dp hp, ry.dp hq, sp, sq, h _ _ (Ex.refl hn.pot) (.bl _)⟩
  · exact False.elim h

/-! ### built-ins by values -/
def bLen : List D → T D
  | [.tup ds] => .ret (.int ds.length)
  | [.lst ds] => .ret (.int ds.length)
  | _ => .fail
theorem cs_len : CaSnd X (.builtin "len") bLen := fun {π N H xs ds Q} hn r h => by
  unfold bLen at h
  split at h
  · cases r with
    | cons r t =>
      cases t
      obtain ⟨a, vs, rfl, ha, ra⟩ := r.tupE
      exact ⟨_, call_len_seq, a, vs, rfl, .inr ha, by rw [ra.length]; exact h _ _ (Ex.refl hn.pot) (.int _)⟩
  · cases r with
    | cons r t =>
      cases t
      obtain ⟨a, vs, rfl, ha, _, _, ra⟩ := r.lstE
      exact ⟨_, call_len_seq, a, vs, rfl, .inl (.inl (.inl ha)), by rw [ra.length]; exact h _ _ (Ex.refl hn.pot) (.int _)⟩
  · exact False.elim h
def bInt : List D → T D
  | [.int i] => .ret (.int i)
  | _ => .fail
theorem cs_int : CaSnd X (.type "int") bInt := fun {π N H xs ds Q} hn r h => by
  unfold bInt at h
  split at h
  · cases r with
    | cons r t =>
      cases t; cases r
      exact ⟨_, call_int1, .inl ⟨_, rfl, h _ _ (Ex.refl hn.pot) (.int _)⟩⟩
  · exact False.elim h
def bAbs : List D → T D
  | [.int i] => .ret (.int (if i < 0 then -i else i))
  | _ => .fail
theorem cs_abs : CaSnd X (.builtin "abs") bAbs := fun {π N H xs ds Q} hn r h => by
  unfold bAbs at h
  split at h
  · cases r with
    | cons r t =>
      cases t; cases r
      exact ⟨_, call_abs, _, rfl, h _ _ (Ex.refl hn.pot) (.int _)⟩
  · exact False.elim h
def bMin2 : List D → T D
  | [.int i, .int j] => .ret (.int (if j < i then j else i))
  | _ => .fail
theorem cs_min2 (hc : X.calm = true) : CaSnd X (.builtin "min") bMin2 := fun {π N H xs ds Q} hn r h => by
  unfold bMin2 at h
  split at h
  · cases r with
    | cons r t =>
      cases t with
      | cons r2 t =>
        cases t; cases r; cases r2
        exact ⟨_, call_min2 hc, _, _, rfl, h _ _ (Ex.refl hn.pot) (.int _)⟩
  · exact False.elim h
def bMax2 : List D → T D
  | [.int i, .int j] => .ret (.int (if j > i then j else i))
  | _ => .fail
theorem cs_max2 (hc : X.calm = true) : CaSnd X (.builtin "max") bMax2 := fun {π N H xs ds Q} hn r h => by
  unfold bMax2 at h
  split at h
  · cases r with
    | cons r t =>
      cases t with
      | cons r2 t =>
        cases t; cases r; cases r2
        exact ⟨_, call_max2 hc, _, _, rfl, h _ _ (Ex.refl hn.pot) (.int _)⟩
  · exact False.elim h
def bTuple : List D → T D
  | [.tup ds] => .ret (.tup ds)
  | [.lst ds] => .ret (.tup ds)
  | _ => .fail
theorem cs_tuple : CaSnd X (.type "tuple") bTuple := fun {π N H xs ds Q} hn r h => by
  unfold bTuple at h
  split at h
  · cases r with
    | cons r t =>
      cases t
      obtain ⟨a, vs, rfl, ha, ra⟩ := id r.tupE
      exact ⟨_, call_tuple_of, a, vs, rfl, .inr ⟨ha, h _ _ (Ex.refl hn.pot) r⟩⟩
  · cases r with
    | cons r t =>
      cases t
      obtain ⟨a, vs, rfl, ha, _, _, ra⟩ := id r.lstE
      exact ⟨_, call_tuple_of, a, vs, rfl, .inl ⟨.inl (.inl ha), fun l hl => Kd.new h hn ra hl⟩⟩
  · exact False.elim h
def bList : List D → T (List D)
  | [.tup ds] => .ret ds
  | [.lst ds] => .ret ds
  | _ => .fail
theorem cs_list : CaSndL X (.type "list") bList := fun {π N H xs ds Q} hn r h => by
  unfold bList at h
  split at h
  · cases r with
    | cons r t =>
      cases t
      obtain ⟨a, vs, rfl, ha, ra⟩ := id r.tupE
      exact ⟨_, call_list_of, a, vs, rfl, .inr ha, fun l hl => Kl.new h hn ra hl⟩
  · cases r with
    | cons r t =>
      cases t
      obtain ⟨a, vs, rfl, ha, _, _, ra⟩ := id r.lstE
      exact ⟨_, call_list_of, a, vs, rfl, .inl (.inl (.inl ha)), fun l hl => Kl.new h hn ra hl⟩
  · exact False.elim h
/-- the bools of a list -/
def bools : List D → Option (List Bool)
  | [] => some []
  | .bl b :: ds => match bools ds with
    | some bs => some (b :: bs)
    | none => none
  | _ => none
theorem bools_rv {K : PySem.W.Frag} {P : Program} {w : World} {π : Addr} {H : Hp} : ∀ {ds : List D} {vs : List V} {bs : List Bool}, RvL K P w π H vs ds → bools ds = some bs → vs = bs.map V.bl
  | _, _, bs, .nil, h => by cases h; rfl
  | .bl b :: ds, _, bs, .cons r t, h => by
    unfold bools at h
    cases q : bools ds with
    | none => rw [q] at h; cases h
    | some cs => rw [q] at h; cases h; rw [bools_rv t q, r.bool]; rfl
  | .int _ :: _, _, _, .cons _ _, h => by cases h
  | .non :: _, _, _, .cons _ _, h => by cases h
  | .str _ :: _, _, _, .cons _ _, h => by cases h
  | .tup _ :: _, _, _, .cons _ _, h => by cases h
  | .lst _ :: _, _, _, .cons _ _, h => by cases h
  | .dic _ :: _, _, _, .cons _ _, h => by cases h
  | .pot :: _, _, _, .cons _ _, h => by cases h
def bAll : List D → T D
  | [.lst ds] => match bools ds with
    | some bs => .ret (.bl (bs.all id))
    | none => .fail
  | _ => .fail
theorem cs_all (hc : X.calm = true) : CaSnd X (.builtin "all") bAll := fun {π N H xs ds Q} hn r h => by
  unfold bAll at h
  split at h
  · cases r with
    | cons r t =>
      cases t
      split at h
      · rename_i bs e
        obtain ⟨a, vs, rfl, ha, _, _, ra⟩ := id r.lstE
        exact ⟨_, cr_all hc, a, bs, rfl, by rw [← bools_rv ra e]; exact .inl (.inl ha), h _ _ (Ex.refl hn.pot) (.bl _)⟩
      · exact False.elim h
  · exact False.elim h
def intsOf : List D → Option (List Int)
  | [] => some []
  | .int b :: ds => match intsOf ds with
    | some bs => some (b :: bs)
    | none => none
  | _ => none
theorem ints_rv {K : PySem.W.Frag} {P : Program} {w : World} {π : Addr} {H : Hp} : ∀ {ds : List D} {vs : List V} {bs : List Int}, RvL K P w π H vs ds → intsOf ds = some bs → vs = bs.map V.int
  | _, _, bs, .nil, h => by cases h; rfl
  | .int b :: ds, _, bs, .cons r t, h => by
    unfold intsOf at h
    cases q : intsOf ds with
    | none => rw [q] at h; cases h
    | some cs => rw [q] at h; cases h; rw [ints_rv t q, r.intE]; rfl
  | .bl _ :: _, _, _, .cons _ _, h => by cases h
  | .non :: _, _, _, .cons _ _, h => by cases h
  | .str _ :: _, _, _, .cons _ _, h => by cases h
  | .tup _ :: _, _, _, .cons _ _, h => by cases h
  | .lst _ :: _, _, _, .cons _ _, h => by cases h
  | .dic _ :: _, _, _, .cons _ _, h => by cases h
  | .pot :: _, _, _, .cons _ _, h => by cases h
def sumI : List Int → Int
  | [] => 0
  | i :: is => i + sumI is
theorem sumI_eq : ∀ l : List Int, sumI l = l.sum
  | [] => rfl
  | i :: is => by rw [List.sum_cons, ← sumI_eq is]; rfl
def bSum : List D → T D
  | [.lst ds] => match intsOf ds with
    | some bs => .ret (.int (sumI bs))
    | none => .fail
  | _ => .fail
theorem cs_sum (hc : X.calm = true) : CaSnd X (.builtin "sum") bSum := fun {π N H xs ds Q} hn r h => by
  unfold bSum at h
  split at h
  · cases r with
    | cons r t =>
      cases t
      split at h
      · rename_i bs e
        obtain ⟨a, vs, rfl, ha, _, _, ra⟩ := id r.lstE
        exact ⟨_, cr_sum hc, a, bs, rfl, by rw [← ints_rv ra e]; exact .inl (.inl ha), by rw [← sumI_eq]; exact h _ _ (Ex.refl hn.pot) (.int _)⟩
      · exact False.elim h
  · exact False.elim h

/-! ### places, slices -/
def ixL (ds : List D) (d : D) : T D := match d with
  | .int i => match atI ds i with
    | some d => .ret d
    | none => .fail
  | _ => .fail
def ixD (x d : D) : T D := match x with
  | .tup ds => ixL ds d
  | .lst ds => ixL ds d
  | _ => .fail
theorem ixL_all {P : D → Prop} {ds : List D} {d : D} (h : (ixL ds d).all P) : ∃ i z, d = .int i ∧ atI ds i = some z ∧ P z := by
  cases d with
  | int i =>
    unfold ixL at h
    simp only [] at h
    cases c : atI ds i with
    | none => rw [c] at h; exact False.elim h
    | some z => rw [c] at h; exact ⟨i, z, rfl, c, h⟩
  | _ => exact False.elim h
theorem atI_rv {K : PySem.W.Frag} {P : Program} {w : World} {π : Addr} {H : Hp} {ds : List D} {vs : List V} {i : Int} {d : D} (r : RvL K P w π H vs ds) (h : atI ds i = some d) : ∃ v, atI vs i = some v ∧ Rv K P w π H v d := by
  unfold atI at h ⊢
  rw [r.length]
  obtain ⟨j, hj, h⟩ := Option.bind_eq_some_iff.mp h
  obtain ⟨v, hv, rv⟩ := r.get h
  exact ⟨v, Option.bind_eq_some_iff.mpr ⟨j, hj, hv⟩, rv⟩
variable {a b e : Expr} {ma mb : Rho → T D} {pos : Pos}
def wpIx (X : Cx) : R2 := fun x y H Q => ∃ r, IxR X r ∧ r x y H Q
theorem ix_wp : IxR X (wpIx X) := fun value slice pins s σ H x y v u Q I rx ry ⟨_, h, q⟩ hs => h value slice pins s σ H x y v u Q I rx ry q hs
theorem s_ix (ha : Snd X a ma) (hb : Snd X b mb) (hs : PlainIx b) : Snd X (.Subscript a b pos) (eBin ixD ma mb) := fun {π N0 H0 N H σ ρ Q} I h => ⟨_, pe_ix ix_wp pe_wp pe_wp hs, by
  refine ha I (T.all_mono (fun dx hx => ?_) (T.all_bind.mp h))
  intro v H1 e1 r1
  refine hb (I.ext e1) (T.all_mono (fun dy hy => ?_) (T.all_bind.mp hx))
  intro u H2 e2 r2
  have hn := I.hn.ext (e1.trans e2)
  have r1 := r1.mono e2.kp.hide
  cases dx with
  | tup ds =>
    obtain ⟨i, z, rfl, ez, hy⟩ := ixL_all hy
    cases r2
    obtain ⟨a, vs, rfl, ha, ra⟩ := r1.tupE
    obtain ⟨z', hz, rz⟩ := atI_rv ra ez
    exact ⟨_, ix_tup, a, vs, _, z', rfl, rfl, ha, hz, hy _ _ (e1.trans e2) rz⟩
  | lst ds =>
    obtain ⟨i, z, rfl, ez, hy⟩ := ixL_all hy
    cases r2
    obtain ⟨a, vs, rfl, ha, _, _, ra⟩ := r1.lstE
    obtain ⟨z', hz, rz⟩ := atI_rv ra ez
    exact ⟨_, ix_list, a, vs, _, z', rfl, rfl, .inl (.inl ha), hz, hy _ _ (e1.trans e2) rz⟩
  | _ => exact False.elim hy⟩
/-- an own list's item -/
def ixOwn (i : Nat) (mb : Rho → T D) : Rho → T D := fun ρ => match ρ[i]? with
  | some (.own ds) => (mb ρ).bind fun y => ixL ds y
  | _ => .fail
theorem s_ixOwn (i : Nat) {x : Str} {p : Pos} (hb : Snd X b mb) (hs : PlainIx b) (hN : X.N[i]? = some x := by rfl) (hv : Vis X.env.scope x := by first | exact Or.inl rfl | exact Or.inr (Or.inl rfl) | exact Or.inr (Or.inr rfl)) (hd : (x == ("__debug__" : Str)) = false := by decide)
    (hcd : (x == ("__classdict__" : Str)) = false := by decide) : Snd X (.Subscript (.Name x p) b pos) (ixOwn i mb) := fun {π N0 H0 N H σ ρ Q} I h => by
  unfold ixOwn at h
  split at h
  · rename_i ds c
    obtain ⟨l, vs, hs1, nl, n0, hl, rl⟩ := I.lst i ds c
    refine ⟨_, pe_ix ix_list (pe_var hN hv hd hcd) pe_wp hs, .ref l, hs1, ?_⟩
    refine hb I (T.all_mono (fun dy hy => ?_) (T.all_bind.mp h))
    intro u H2 e2 r2
    obtain ⟨i, z, rfl, ez, hy⟩ := ixL_all hy
    cases r2
    obtain ⟨z', hz, rz⟩ := atI_rv (rl.mono e2.kp.hide) ez
    exact ⟨l, vs, _, z', rfl, rfl, .inl (.inl (e2.kp l _ (N_ne I.hn nl) hl)), hz, hy _ _ e2 rz⟩
  · exact False.elim h
/-- len of an own list -/
def lenOwn (i : Nat) : Rho → T D := fun ρ => match ρ[i]? with
  | some (.own ds) => .ret (.int ds.length)
  | _ => .fail
theorem s_lenOwn (i : Nat) {x : Str} {p p2 : Pos} (hm : X.mg "len" = none) (hg : Gl X "len" := by rfl) (hN : X.N[i]? = some x := by rfl) (hv : Vis X.env.scope x := by first | exact Or.inl rfl | exact Or.inr (Or.inl rfl) | exact Or.inr (Or.inr rfl)) (hd : (x == ("__debug__" : Str)) = false := by decide)
    (hcd : (x == ("__classdict__" : Str)) = false := by decide) (he : starEach [.Name x p] X.env = (false, eval (.Name x p) X.env) :: starEach [] X.env := by rfl) (hpl : (backTo pos (starEach [] X.env)).any (·.1) = false := by rfl) : Snd X (.Call (.Name "len" p2) [.Name x p] [] pos) (lenOwn i) := fun {π N0 H0 N H σ ρ Q} I h => by
  unfold lenOwn at h
  split at h
  · rename_i ds c
    obtain ⟨l, vs, hs1, nl, n0, hl, rl⟩ := I.lst i ds c
    refine ⟨_, pe_callB call_len_seq hg hm PySem.boot_len (pa_cons (pe_var hN hv hd hcd) pa_nil he) (by decide) (by decide) he hpl, .ref l, hs1, l, vs, rfl, .inl (.inl (.inl hl)), ?_⟩
    rw [rl.length]
    exact h _ _ (Ex.refl I.hn.pot) (.int _)
  · exact False.elim h
/-! slices -/
def oNo : Rho → T (Option Int) := fun _ => .ret none
def oPart (m : Rho → T D) : Rho → T (Option Int) := fun ρ => (m ρ).bind fun d => match d with
  | .int i => .ret (some i)
  | _ => .fail
def SndO (X : Cx) (e : Option Expr) (m : Rho → T (Option Int)) : Prop := ∀ ⦃π : Addr⦄ ⦃N0 : Addr → Bool⦄ ⦃H0 : Hp⦄ ⦃N : Addr → Bool⦄ ⦃H : Hp⦄ ⦃σ : L2.St⦄ ⦃ρ : Rho⦄ ⦃Q : Option Int → Hp → Prop⦄, EnvOk X.K X.prog X.w π N0 H0 N H σ ρ → (m ρ).all (fun b => ∀ H2, Ex π H H2 → Q b H2) → ∃ t, PO X e t ∧ t σ H Q
theorem so_no : SndO X none oNo := fun {_ _ _ _ _ _ _ _} I h => ⟨_, po_none, h _ (Ex.refl I.hn.pot)⟩
theorem so_some (ha : Snd X a ma) : SndO X (some a) (oPart ma) := fun {_ _ _ _ _ _ _ _} I h => ⟨_, po_some pe_wp, ha I (T.all_mono (fun d hd v H2 e r => by
  cases d <;> first | exact False.elim hd | (cases r; exact ⟨_, rfl, hd _ e⟩)) (T.all_bind.mp h))⟩
def wpO (X : Cx) (e : Option Expr) : TO := fun σ H Q => ∃ t, PO X e t ∧ t σ H Q
theorem po_wp {e : Option Expr} : PO X e (wpO X e) := ⟨fun pins s σ H Q I ⟨_, h, q⟩ => h.run pins s σ H Q I q⟩
def cutD (xs : List D) (lo hi : Option Int) : List D := (xs.drop (HT.sIx xs.length 0 lo)).take (HT.sIx xs.length xs.length hi - HT.sIx xs.length 0 lo)
def slD (d : D) (lo hi : Option Int) : T D := match d with
  | .tup ds => .ret (.tup (cutD ds lo hi))
  | .lst ds => .ret (.lst (cutD ds lo hi))
  | _ => .fail
def eSl (m : Rho → T D) (ml mh : Rho → T (Option Int)) : Rho → T D := fun ρ => (m ρ).bind fun d => (ml ρ).bind fun l => (mh ρ).bind fun u => slD d l u
theorem cut_rv {K : PySem.W.Frag} {P : Program} {w : World} {π : Addr} {H : Hp} {ds : List D} {vs : List V} {lo hi : Option Int} (r : RvL K P w π H vs ds) : RvL K P w π H (cutV vs lo hi) (cutD ds lo hi) := by
  unfold cutV cutD
  rw [r.length]
  exact (r.drop _).take _
theorem sIx_le : ∀ (n d : Nat) (o : Option Int), d ≤ n → HT.sIx n d o ≤ n := fun n d o h => by
  cases o with
  | none => exact h
  | some i => unfold HT.sIx; simp only []; split <;> (try split) <;> omega
theorem cut_whole {xs : List D} {lo hi : Option Int} (h : HT.sIx xs.length 0 lo = 0 ∧ HT.sIx xs.length xs.length hi = xs.length) : cutD xs lo hi = xs := by
  unfold cutD
  rw [h.1, h.2, List.drop_zero, Nat.sub_zero, List.take_length]
def wpSl (X : Cx) : V → Option Int → Option Int → Hp → VK → Prop := fun x l u H Q => ∃ r, SlR X r ∧ r x l u H Q
theorem sl_wp : SlR X (wpSl X) := fun pins s σ H x v vl vu lo hi sl Q I rx hs pl pu ⟨_, h, q⟩ => h pins s σ H x v vl vu lo hi sl Q I rx hs pl pu q
theorem s_sl {lo hi : Option Expr} {ml mh : Rho → T (Option Int)} {p2 : Pos} (ha : Snd X a ma) (hl : SndO X lo ml) (hh : SndO X hi mh) : Snd X (.Subscript a (.Slice lo hi none p2) pos) (eSl ma ml mh) := fun {π N0 H0 N H σ ρ Q} I h => ⟨_, pe_slice sl_wp pe_wp po_wp po_wp, by
  refine ha I (T.all_mono (fun dx hx => ?_) (T.all_bind.mp h))
  intro v H1 e1 r1
  refine hl (I.ext e1) (T.all_mono (fun l hl => ?_) (T.all_bind.mp hx))
  intro H2 e2
  refine hh (I.ext (e1.trans e2)) (T.all_mono (fun u hu => ?_) (T.all_bind.mp hl))
  intro H3 e3
  have e := (e1.trans e2).trans e3
  have hn := I.hn.ext e
  have r1 := r1.mono (e2.trans e3).kp.hide
  unfold slD at hu
  split at hu
  · obtain ⟨a, vs, rfl, ha, ra⟩ := id r1.tupE
    refine ⟨_, sl_tupA, a, vs, rfl, ha, fun w => ?_, fun w p hp => Kd.new (hu.up e) hn (cut_rv ra) hp⟩
    rw [ra.length] at w
    refine hu _ _ e ?_
    rw [cut_whole w]
    exact r1
  · obtain ⟨a, vs, rfl, ha, _, _, ra⟩ := id r1.lstE
    exact ⟨_, sl_list, a, vs, rfl, .inl (.inl ha), fun p hp => Kd.newL (hu.up e) hn (cut_rv ra) hp⟩
  · exact False.elim hu⟩
end
end Pd

namespace Pd
open PySem L2

inductive Out where
  | nx (ρ : Rho) | rt (d : D) | bk (ρ : Rho) | ct (ρ : Rho)
section
variable (X : Cx)
def OutOk (π : Addr) (N0 : Addr → Bool) (H0 : Hp) (De : Ends) : Out → Prop
  | .nx ρ => ∀ N H σ, EnvOk X.K X.prog X.w π N0 H0 N H σ ρ → De.nx σ H
  | .bk ρ => ∀ N H σ, EnvOk X.K X.prog X.w π N0 H0 N H σ ρ → De.bk σ H
  | .ct ρ => ∀ N H σ, EnvOk X.K X.prog X.w π N0 H0 N H σ ρ → De.ct σ H
  | .rt d => ∀ v H, Ex π H0 H → Rv X.K X.prog X.w π (Hide N0 H) v d → De.rt v H
def SndS (st : Stmt) (m : Rho → T Out) : Prop := ∀ ⦃π : Addr⦄ ⦃N0 : Addr → Bool⦄ ⦃H0 : Hp⦄ ⦃N : Addr → Bool⦄ ⦃H : Hp⦄ ⦃σ : L2.St⦄ ⦃ρ : Rho⦄ ⦃De : Ends⦄, EnvOk X.K X.prog X.w π N0 H0 N H σ ρ → (m ρ).all (OutOk X π N0 H0 De) → wpS X st De σ H
def SndB (sts : List Stmt) (m : Rho → T Out) : Prop := ∀ ⦃π : Addr⦄ ⦃N0 : Addr → Bool⦄ ⦃H0 : Hp⦄ ⦃N : Addr → Bool⦄ ⦃H : Hp⦄ ⦃σ : L2.St⦄ ⦃ρ : Rho⦄ ⦃De : Ends⦄, EnvOk X.K X.prog X.w π N0 H0 N H σ ρ → (m ρ).all (OutOk X π N0 H0 De) → wpSs X sts De σ H
def SndG (tg : Expr) (g : D → Rho → T Rho) : Prop := ∀ ⦃π : Addr⦄ ⦃N0 : Addr → Bool⦄ ⦃H0 : Hp⦄ ⦃N : Addr → Bool⦄ ⦃H : Hp⦄ ⦃σ : L2.St⦄ ⦃ρ : Rho⦄ ⦃v : V⦄ ⦃d : D⦄ ⦃Q : L2.St → Hp → Prop⦄, EnvOk X.K X.prog X.w π N0 H0 N H σ ρ → Rv X.K X.prog X.w π (Hide N H) v d →
  (g d ρ).all (fun ρ' => ∀ σ', EnvOk X.K X.prog X.w π N0 H0 N H σ' ρ' → Q σ' H) → wpG X tg v σ H Q
def SndGs (tgs : List Expr) (g : List D → Rho → T Rho) : Prop := ∀ ⦃π : Addr⦄ ⦃N0 : Addr → Bool⦄ ⦃H0 : Hp⦄ ⦃N : Addr → Bool⦄ ⦃H : Hp⦄ ⦃σ : L2.St⦄ ⦃ρ : Rho⦄ ⦃vs : List V⦄ ⦃ds : List D⦄ ⦃Q : L2.St → Hp → Prop⦄, EnvOk X.K X.prog X.w π N0 H0 N H σ ρ → RvL X.K X.prog X.w π (Hide N H) vs ds →
  (g ds ρ).all (fun ρ' => ∀ σ', EnvOk X.K X.prog X.w π N0 H0 N H σ' ρ' → Q σ' H) → ∃ t, PGs X tgs t ∧ t vs σ H Q
/-- J walks the data ds, wherever what was seen stands -/
def Walk (π : Addr) (B : Hp) (J : It) (ds : List D) : Prop := ∀ (N : Addr → Bool) (H : Hp) (i : Nat), HN π N H → Kp π B (Hide N H) →
  (∀ d, ds[i]? = some d → J.go i H ∧ ∀ x H', J.yld i H x H' → Ex π H H' ∧ Rv X.K X.prog X.w π (Hide N H') x d) ∧ (i = ds.length → J.stop i H)
def SndI (tg it : Expr) (m : Rho → T (List D)) : Prop := ∀ ⦃π : Addr⦄ ⦃N0 : Addr → Bool⦄ ⦃H0 : Hp⦄ ⦃N : Addr → Bool⦄ ⦃H : Hp⦄ ⦃σ : L2.St⦄ ⦃ρ : Rho⦄ ⦃R : It → Hp → Prop⦄, EnvOk X.K X.prog X.w π N0 H0 N H σ ρ →
  (m ρ).all (fun ds => ∀ J H2, Ex π H H2 → Walk X π (Hide N H2) J ds → R J H2) → wpI X tg it σ H R
end

def bNil : Rho → T Out := fun ρ => .ret (.nx ρ)
def bSeq (m1 m2 : Rho → T Out) : Rho → T Out := fun ρ => (m1 ρ).bind fun o => match o with
  | .nx ρ' => m2 ρ'
  | .rt d => .ret (.rt d)
  | .bk ρ' => .ret (.bk ρ')
  | .ct ρ' => .ret (.ct ρ')
def bFreeze (i : Nat) (m : Rho → T Out) : Rho → T Out := fun ρ => match ρ[i]? with
  | some (.own ds) => m (ρ.set i (.val (.lst ds)))
  | _ => m ρ
def bFreezeD (i : Nat) (m : Rho → T Out) : Rho → T Out := fun ρ => match ρ[i]? with
  | some (.ownD kvs) => m (ρ.set i (.val (.dic kvs)))
  | _ => m ρ
def sSet (i : Nat) (m : Rho → T D) : Rho → T Out := fun ρ => (m ρ).bind fun d => .ret (.nx (ρ.set i (.val d)))
def sOwn (i : Nat) (m : Rho → T (List D)) : Rho → T Out := fun ρ => (m ρ).bind fun ds => .ret (.nx (ρ.set i (.own ds)))
def sRet (m : Rho → T D) : Rho → T Out := fun ρ => (m ρ).bind fun d => .ret (.rt d)
def sExpr (m : Rho → T D) : Rho → T Out := fun ρ => (m ρ).bind fun _ => .ret (.nx ρ)
def sIf (mt : Rho → T Bool) (m1 m2 : Rho → T Out) : Rho → T Out := fun ρ => (mt ρ).bind fun b => cond b (m1 ρ) (m2 ρ)
def sFail : Rho → T Out := fun _ => .fail
def sApp (i : Nat) (m : Rho → T D) : Rho → T Out := fun ρ => match ρ[i]? with
  | some (.own ds) => (m ρ).bind fun d => cond (small ds) (.ret (.nx (ρ.set i (.own (ds ++ [d]))))) .fail
  | _ => .fail
def sAsg (g : D → Rho → T Rho) (m : Rho → T D) : Rho → T Out := fun ρ => (m ρ).bind fun d => (g d ρ).bind fun ρ' => .ret (.nx ρ')
def gNm (i : Nat) : D → Rho → T Rho := fun d ρ => .ret (ρ.set i (.val d))
def gsNil : List D → Rho → T Rho := fun ds ρ => match ds with
  | [] => .ret ρ
  | _ => .fail
def gsCons (g : D → Rho → T Rho) (gs : List D → Rho → T Rho) : List D → Rho → T Rho := fun ds ρ => match ds with
  | d :: ds => (g d ρ).bind fun ρ' => gs ds ρ'
  | [] => .fail
def gTp (n : Nat) (gs : List D → Rho → T Rho) : D → Rho → T Rho := fun d ρ => match d with
  | .tup ds => cond (ds.length == n) (gs ds ρ) .fail
  | _ => .fail
def forT (body : D → Rho → T Out) : List D → Rho → T Out
  | [], ρ => .ret (.nx ρ)
  | d :: ds, ρ => (body d ρ).bind fun o => match o with
    | .nx ρ' => forT body ds ρ'
    | .ct ρ' => forT body ds ρ'
    | .bk ρ' => .ret (.nx ρ')
    | .rt r => .ret (.rt r)
def sFor (mi : Rho → T (List D)) (g : D → Rho → T Rho) (body : Rho → T Out) : Rho → T Out := fun ρ => (mi ρ).bind fun ds => forT (fun d ρ => (g d ρ).bind body) ds ρ
def whT (mt : Rho → T Bool) (body : Rho → T Out) : Nat → Rho → T Out
  | 0, _ => .fail
  | f + 1, ρ => (mt ρ).bind fun b => cond b ((body ρ).bind fun o => match o with
    | .nx ρ' => whT mt body f ρ'
    | .ct ρ' => whT mt body f ρ'
    | .bk ρ' => .ret (.nx ρ')
    | .rt r => .ret (.rt r)) (.ret (.nx ρ))

section
variable {X : Cx} {st : Stmt} {sts rest : List Stmt} {a b c e : Expr} {ma mb m : Rho → T D} {mt : Rho → T Bool} {m1 m2 : Rho → T Out} {pos : Pos}
theorem b_nil : SndB X [] bNil := fun {_ _ _ _ _ _ _ _} I h => ⟨_, pss_nil, h _ _ _ I⟩
theorem b_cons (h1 : SndS X st m1) (h2 : SndB X rest m2) : SndB X (st :: rest) (bSeq m1 m2) := fun {π N0 H0 N H σ ρ De} I h =>
  ⟨_, pss_cons ps_wp pss_wp, h1 I (T.all_mono (fun o ho => by
    cases o with
    | nx ρ' => exact fun N' H' σ' I' => h2 I' ho
    | rt d => exact ho
    | bk ρ' => exact ho
    | ct ρ' => exact ho) (T.all_bind.mp h))⟩
theorem b_one (h1 : SndS X st m1) : SndB X [st] m1 := fun {_ _ _ _ _ _ _ _} I h => ⟨_, pss_one ps_wp, h1 I h⟩
theorem b_freeze (i : Nat) (h : SndB X sts m1) : SndB X sts (bFreeze i m1) := fun {π N0 H0 N H σ ρ De} I q => by
  unfold bFreeze at q
  split at q
  · obtain ⟨N', I'⟩ := I.freeze (by assumption)
    exact h I' q
  · exact h I q
theorem b_freezeD (i : Nat) (h : SndB X sts m1) : SndB X sts (bFreezeD i m1) := fun {π N0 H0 N H σ ρ De} I q => by
  unfold bFreezeD at q
  split at q
  · obtain ⟨l, xs, N', hl, I'⟩ := I.freezeD (by assumption)
    refine ⟨fun De σ H => ∃ l u, H l = some u ∧ Mut (some u) ∧ ∀ od, wpSs X sts De σ (upd H l (.frz od u)), ⟨fun pins s σ H De J z => ?_⟩, l, _, hl, True.intro, fun od => h (I' od) q⟩
    obtain ⟨l, u, hl, mu, z⟩ := z
    obtain ⟨od, J1⟩ := J.lock hl mu
    exact pss_wp.run pins s σ _ De J1 (z od)
  · exact h I q
theorem ss_set {i : Nat} {x : Str} {pos' : Pos} (hN : X.N.Nodup) (he : Snd X e m) (hi : X.N[i]? = some x := by rfl) (hx : Loc X.env.scope x := by first | exact .inl rfl | exact .inr rfl) (hs : swapsWith e (some (.Name x pos')) pos.line X.env = pure false := by rfl) (hf : X.fn x = true ∨ X.env.scope.names.lookup x = some .local := by first | exact .inl rfl | exact .inr rfl) :
    SndS X (.Assign [.Name x pos'] e pos) (sSet i m) := fun {π N0 H0 N H σ ρ De} I h => ⟨_, ps_set hN hi hx pe_wp hs hf, he I (T.all_mono (fun d hd => by intro v H2 e2 r; exact hd _ _ _ ((I.ext e2).set r)) (T.all_bind.mp h))⟩
theorem ss_own {i : Nat} {x : Str} {pos' : Pos} {ml : Rho → T (List D)} (hN : X.N.Nodup) (he : SndL X e ml) (hi : X.N[i]? = some x := by rfl) (hx : Loc X.env.scope x := by first | exact .inl rfl | exact .inr rfl) (hs : swapsWith e (some (.Name x pos')) pos.line X.env = pure false := by rfl) (hf : X.fn x = true ∨ X.env.scope.names.lookup x = some .local := by first | exact .inl rfl | exact .inr rfl) :
    SndS X (.Assign [.Name x pos'] e pos) (sOwn i ml) := fun {π N0 H0 N H σ ρ De} I h => ⟨_, ps_set hN hi hx pe_wp hs hf, he I (T.all_mono (fun ds hd => by intro l vs H2 e2 hl h2 r; exact hd _ _ _ (I.newAny e2 hl (by rw [h2]; exact fun z => by cases z) (.inl ⟨vs, ds, rfl, h2, r⟩))) (T.all_bind.mp h))⟩
theorem EnvOk.ret {π : Addr} {N0 N : Addr → Bool} {H0 H H2 : Hp} {σ : L2.St} {ρ : Rho} {v : V} {d : D} (I : EnvOk X.K X.prog X.w π N0 H0 N H σ ρ) (e : Ex π H H2) (r : Rv X.K X.prog X.w π (Hide N H2) v d) : Ex π H0 H2 ∧ Rv X.K X.prog X.w π (Hide N0 H2) v d :=
  ⟨⟨I.ex.trans e.kp, e.pot⟩, r.mono (Kp.less I.sub)⟩
theorem ss_ret (he : Snd X e m) : SndS X (.Return (some e) pos) (sRet m) := fun {π N0 H0 N H σ ρ De} I h => ⟨_, ps_ret pe_wp, he I (T.all_mono (fun d hd => by intro v H2 e2 r; exact hd v H2 (I.ret e2 r).1 (I.ret e2 r).2) (T.all_bind.mp h))⟩
theorem ss_retN : SndS X (.Return none pos) (sRet (eC .non)) := fun {π N0 H0 N H σ ρ De} I h => ⟨_, ps_retN, h .non H (I.ret (Ex.refl I.hn.pot) .non).1 .non⟩
theorem ss_expr (he : Snd X e m) (hs : swapsWith e none pos.line X.env = pure false := by rfl) : SndS X (.Expr e pos) (sExpr m) := fun {π N0 H0 N H σ ρ De} I h => ⟨_, ps_expr pe_wp hs, he I (T.all_mono (fun d hd => by intro v H2 e2 r; exact hd _ _ _ (I.ext e2)) (T.all_bind.mp h))⟩
theorem ss_if {xs ys : List Stmt} (hc : SndT X c mt) (ha : SndB X xs m1) (hb : SndB X ys m2) : SndS X (.If c xs ys pos) (sIf mt m1 m2) := fun {π N0 H0 N H σ ρ De} I h => ⟨_, ps_if pt_wp pss_wp pss_wp, hc I (T.all_mono (fun k hk H2 e2 => by
  cases k with
  | true => exact iteT (ha (I.ext e2) hk)
  | false => exact iteF (hb (I.ext e2) hk)) (T.all_bind.mp h))⟩
theorem ss_fail : SndS X st sFail := fun {_ _ _ _ _ _ _ _} _ h => False.elim h
theorem sb_fail : SndB X sts sFail := fun {_ _ _ _ _ _ _ _} _ h => False.elim h
theorem ss_pass : SndS X (.Pass pos) bNil := fun {_ _ _ _ _ _ _ _} I h => ⟨_, ps_pass, h _ _ _ I⟩
theorem ss_brk : SndS X (.Break pos) (fun ρ => .ret (.bk ρ)) := fun {_ _ _ _ _ _ _ _} I h => ⟨_, ps_break, h _ _ _ I⟩
theorem ss_ct : SndS X (.Continue pos) (fun ρ => .ret (.ct ρ)) := fun {_ _ _ _ _ _ _ _} I h => ⟨_, ps_continue, h _ _ _ I⟩
theorem ss_app {i : Nat} {x : Str} {p apos cpos : Pos} (he : Snd X e m) (hN : X.N[i]? = some x := by rfl) (hv : Vis X.env.scope x := by first | exact Or.inl rfl | exact Or.inr (Or.inl rfl) | exact Or.inr (Or.inr rfl)) (hd : (x == ("__debug__" : Str)) = false := by decide)
    (hcd : (x == ("__classdict__" : Str)) = false := by decide) (hse : starEach [e] X.env = (false, eval e X.env) :: starEach [] X.env := by rfl) (hpl : (backTo cpos (starEach [] X.env)).any (·.1) = false := by rfl)
    (hs : swapsWith (.Call (.Attribute (.Name x p) "append" apos) [e] [] cpos) none pos.line X.env = pure false := by rfl) (hfew : ((((backTo cpos (starEach [e] X.env)).all fun x => !x.fst) && (backToKw cpos (keywordEach [] X.env)).all fun x => x.fst.isSome) && decide (([e].length + ([] : List Keyword).length + if ([] : List Keyword).isEmpty = true then 0 else 1) < 30)) = true := by rfl) (hline : (apos.endLine == cpos.line) = true := by rfl) : SndS X (.Expr (.Call (.Attribute (.Name x p) "append" apos) [e] [] cpos) pos) (sApp i m) := fun {π N0 H0 N H σ ρ De} I h => by
  unfold sApp at h
  split at h
  · rename_i ds c
    obtain ⟨l, vs, hs1, nl, n0, hl, rl⟩ := I.lst i ds c
    refine ⟨_, ps_expr (pe_bm PySem.F.plainAttrs_list PySem.F.slot_list_append PySem.F.type_list_append mt_append (pe_var hN hv hd hcd) (pa_cons pe_wp pa_nil hse) (hfew := hfew) (hline := hline) (hs := hse) (hplain := hpl)) hs, .ref l, hs1, .inl ⟨rfl, _, SqL.of hl⟩, ?_⟩
    refine he I (T.all_mono (fun d hd => ?_) (T.all_bind.mp h))
    intro v H2 e2 r
    obtain ⟨hsm, hd⟩ := cond_all hd
    have hl2 := e2.kp l _ (N_ne I.hn nl) hl
    refine ⟨l, vs, v, rfl, rfl, hl2, ?_, ?_⟩
    · rw [rl.length]
      exact Nat.lt_of_le_of_lt (of_decide_eq_true hsm) (by decide)
    · exact hd _ _ _ ((I.ext e2).upAny c rfl hs1 nl n0 (.inl ⟨vs ++ [v], ds ++ [d], rfl, rfl, (rl.mono e2.kp.hide).append (.cons r .nil)⟩))
  · exact False.elim h
/-! targets -/
theorem g_name {i : Nat} {x : Str} (hN : X.N.Nodup) (hi : X.N[i]? = some x := by rfl) (hx : Loc X.env.scope x := by first | exact .inl rfl | exact .inr rfl) (hf : X.fn x = true ∨ X.env.scope.names.lookup x = some .local := by first | exact .inl rfl | exact .inr rfl | assumption) : SndG X (.Name x pos) (gNm i) := fun {_ _ _ _ _ _ _ _ _ _} I r h => ⟨_, pg_name hN hi hx hf, h _ (I.set r)⟩
theorem gs_nil : SndGs X [] gsNil := fun {π N0 H0 N H σ ρ vs ds Q} I r h => by
  cases r with
  | nil => exact ⟨_, pgs_nil, rfl, h _ I⟩
  | cons _ _ => exact False.elim h
theorem gs_cons {es : List Expr} {g : D → Rho → T Rho} {gs : List D → Rho → T Rho} (h1 : SndG X e g) (h2 : SndGs X es gs) (hs : (assignEach (e :: es) X.env).map (·.2) = assign e X.env :: (assignEach es X.env).map (·.2) := by rfl) : SndGs X (e :: es) (gsCons g gs) := fun {π N0 H0 N H σ ρ vs ds Q} I r h => by
  cases r with
  | nil => exact False.elim h
  | cons r t =>
    refine ⟨_, pgs_cons (u := fun vs σ H Q => ∃ t, PGs X es t ∧ t vs σ H Q) pg_wp ⟨fun pins s σ H vs us Q I r ⟨_, h, q⟩ => h.run pins s σ H vs us Q I r q⟩ hs, _, _, rfl, h1 I r (T.all_mono (fun ρ' hρ σ' I' => h2 I' t hρ) (T.all_bind.mp h))⟩
theorem g_tup {es : List Expr} {k n : Nat} {gs : List D → Rho → T Rho} (hc : X.calm = true) (h : SndGs X es gs) (hn : (assignEach es X.env).length = n := by rfl) (hst : (assignEach es X.env).findIdx? (·.1) = none := by rfl) : SndG X (.Tuple es k pos) (gTp n gs) := fun {π N0 H0 N H σ ρ v d Q} I r q => by
  unfold gTp at q
  split at q
  · obtain ⟨hl, q⟩ := cond_all q
    obtain ⟨a, vs, rfl, ha, ra⟩ := id r.tupE
    exact ⟨_, pg_tup (t := fun vs σ H Q => ∃ t, PGs X es t ∧ t vs σ H Q) hc ⟨fun pins s σ H vs us Q I r ⟨_, h, q⟩ => h.run pins s σ H vs us Q I r q⟩ hn hst, a, vs, rfl, ha, by rw [ra.length]; exact by simpa using hl, h I ra q⟩
  · exact False.elim q
theorem ss_asg {tg : Expr} {g : D → Rho → T Rho} (he : Snd X e m) (hg : SndG X tg g) (hs : swapsWithSole [tg] e pos.line X.env = pure false := by rfl) (hw : swappedStores [tg] e X.env = pure none := by rfl)
    (h1 : (assignEach [tg] X.env).map (·.2) = [assign tg X.env] := by rfl) : SndS X (.Assign [tg] e pos) (sAsg g m) := fun {π N0 H0 N H σ ρ De} I h => ⟨_, ps_asg pe_wp pg_wp hs hw h1, he I (T.all_mono (fun d hd => by intro v H2 e2 r; exact hg (I.ext e2) r (T.all_mono (fun ρ' q => by intro σ' I'; exact q _ _ _ I') (T.all_bind.mp hd))) (T.all_bind.mp h))⟩
/-! loops -/
theorem ss_for {tg it : Expr} {body : List Stmt} {mi : Rho → T (List D)} {g : D → Rho → T Rho} {mbd : Rho → T Out} (hp : PassesOwn (model X.prog X.w) X.A X.env X.xe) (hc : X.calm = true) (hi : SndI X tg it mi) (hg : SndG X tg g) (hb : SndB X body mbd)
    (hs : ∀ x, foldedSetIterable it X.env x = pure x := by intro _; rfl) : SndS X (.For tg it body [] pos) (sFor mi g mbd) := fun {π N0 H0 N H σ ρ De} I h => by
  refine ⟨_, ps_for hp hc pi_wp pg_wp pss_wp hs, hi I (T.all_mono (fun ds hds J H2 e2 wk => ?_) (T.all_bind.mp h))⟩
  have I2 := I.ext e2
  refine ⟨fun i k σ' H' => k = ds.length - i ∧ i ≤ ds.length ∧ ∃ N' ρ', EnvOk X.K X.prog X.w π N0 (baseOf N0 N H2) N' H' σ' ρ' ∧ (forT (fun d ρ => (g d ρ).bind mbd) (ds.drop i) ρ').all (OutOk X π N0 H0 De),
    ⟨ds.length, rfl, Nat.zero_le _, N, ρ, I2.rebase, hds⟩, ?_⟩
  rintro i k σ' H' ⟨rfl, hle, N', ρ', I', hall⟩
  have w := wk N' H' i I'.hn (I2.seen I')
  by_cases hlt : i < ds.length
  · have hget : ds[i]? = some ds[i] := List.getElem?_eq_getElem hlt
    obtain ⟨go, yl⟩ := w.1 _ hget
    rw [List.drop_eq_getElem_cons hlt] at hall
    refine .inr ⟨go, fun σ'' H'' => ∃ N'' ρ'', EnvOk X.K X.prog X.w π N0 (baseOf N0 N H2) N'' H'' σ'' ρ'' ∧ (forT (fun d ρ => (g d ρ).bind mbd) (ds.drop (i + 1)) ρ'').all (OutOk X π N0 H0 De), fun σ'' H'' q => ⟨ds.length - (i + 1), by omega, rfl, hlt, q⟩, fun x H'' y => ?_⟩
    obtain ⟨e3, rx⟩ := yl x H'' y
    refine hg (I'.ext e3) rx (T.all_mono (fun ρ2 h2 σ2 I3 => ?_) (T.all_bind.mp (T.all_bind.mp hall)))
    refine hb I3 (T.all_mono (fun o ho => ?_) h2)
    cases o with
    | nx ρ3 => exact fun N4 H4 σ4 I4 => ⟨N4, ρ3, I4, ho⟩
    | ct ρ3 => exact fun N4 H4 σ4 I4 => ⟨N4, ρ3, I4, ho⟩
    | bk ρ3 => exact fun N4 H4 σ4 I4 => ho N4 H4 σ4 (I2.unbase I4)
    | rt d => exact fun v H4 e4 r4 => ho v H4 ⟨I2.base_kp.trans e4.kp, e4.pot⟩ r4
  · have e : i = ds.length := by omega
    subst e
    rw [List.drop_length] at hall
    exact .inl ⟨w.2 rfl, hall _ _ _ (I2.unbase I')⟩
theorem ss_while {body : List Stmt} {mbd : Rho → T Out} (f : Nat) (hp : PassesOwn (model X.prog X.w) X.A X.env X.xe) (hc : SndT X c mt) (hb : SndB X body mbd) : SndS X (.While c body [] pos) (whT mt mbd f) := fun {π N0 H0 N H σ ρ De} I h => by
  refine ⟨_, ps_while hp pt_wp pss_wp, fun k σ' H' => ∃ N' ρ', EnvOk X.K X.prog X.w π N0 H0 N' H' σ' ρ' ∧ (whT mt mbd k ρ').all (OutOk X π N0 H0 De), ⟨f, N, ρ, I, h⟩, ?_⟩
  rintro k σ' H' ⟨N', ρ', I', h'⟩
  cases k with
  | zero => exact False.elim h'
  | succ k =>
    refine hc I' (T.all_mono (fun b hb' H2 e2 => ?_) (T.all_bind.mp h'))
    cases b with
    | false => exact iteF (hb' _ _ _ (I'.ext e2))
    | true =>
      refine iteT ⟨fun σ'' H'' => ∃ N'' ρ'', EnvOk X.K X.prog X.w π N0 H0 N'' H'' σ'' ρ'' ∧ (whT mt mbd k ρ'').all (OutOk X π N0 H0 De), fun σ'' H'' q => ⟨k, Nat.lt_succ_self k, q⟩, ?_⟩
      refine hb (I'.ext e2) (T.all_mono (fun o ho => ?_) (T.all_bind.mp hb'))
      cases o with
      | nx ρ3 => exact fun N4 H4 σ4 I4 => ⟨N4, ρ3, I4, ho⟩
      | ct ρ3 => exact fun N4 H4 σ4 I4 => ⟨N4, ρ3, I4, ho⟩
      | bk ρ3 => exact fun N4 H4 σ4 I4 => ho N4 H4 σ4 I4
      | rt d => exact ho
end
end Pd

namespace Pd
open PySem L2 RZ

def asL : D → T (List D)
  | .lst ds => .ret ds
  | _ => .fail
def asTp : D → T (List D)
  | .tup ds => .ret ds
  | _ => .fail
def iLst (m : Rho → T D) : Rho → T (List D) := fun ρ => (m ρ).bind asL
def iTp (m : Rho → T D) : Rho → T (List D) := fun ρ => (m ρ).bind asTp
def upto (lo : Int) : Nat → List D
  | 0 => []
  | n + 1 => .int lo :: upto (lo + 1) n
theorem upto_len : ∀ (lo : Int) (n : Nat), (upto lo n).length = n
  | _, 0 => rfl
  | lo, n + 1 => congrArg Nat.succ (upto_len (lo + 1) n)
theorem upto_get : ∀ {lo : Int} {n i : Nat} {d : D}, (upto lo n)[i]? = some d → i < n ∧ d = .int (lo + i)
  | _, 0, _, _, h => by cases h
  | lo, n + 1, 0, d, h => by
    cases h
    exact ⟨Nat.succ_pos n, by simp⟩
  | lo, n + 1, i + 1, d, h => by
    obtain ⟨a, b⟩ := upto_get (lo := lo + 1) (n := n) (i := i) h
    refine ⟨Nat.succ_lt_succ a, ?_⟩
    rw [b]
    congr 1
    omega
def rng1 : List D → T (List D)
  | [.int j] => cond (decide (j ≤ 100000) && decide (-100000 ≤ j)) (.ret (upto 0 j.toNat)) .fail
  | _ => .fail
def rng2 : List D → T (List D)
  | [.int i, .int j] => cond (decide (j ≤ 100000) && decide (-100000 ≤ j) && (decide (i ≤ 100000) && decide (-100000 ≤ i))) (.ret (upto i (j - i).toNat)) .fail
  | _ => .fail
def iRg (f : List D → T (List D)) (ms : Rho → T (List D)) : Rho → T (List D) := fun ρ => (ms ρ).bind f
def zipD : List D → List D → List D
  | a :: as, b :: bs => .tup [a, b] :: zipD as bs
  | _, _ => []
theorem zipD_get : ∀ {as bs : List D} {i : Nat} {d : D}, (zipD as bs)[i]? = some d → ∃ a b, as[i]? = some a ∧ bs[i]? = some b ∧ d = .tup [a, b]
  | [], _, _, _, h => by simp [zipD] at h
  | _ :: _, [], _, _, h => by simp [zipD] at h
  | a :: as, b :: bs, 0, d, h => by cases h; exact ⟨a, b, rfl, rfl, rfl⟩
  | a :: as, b :: bs, i + 1, d, h => zipD_get (as := as) (bs := bs) (i := i) h
theorem zipD_len : ∀ (as bs : List D), (zipD as bs).length = min as.length bs.length
  | [], _ => by simp [zipD]
  | _ :: _, [] => by simp [zipD]
  | a :: as, b :: bs => by
    show (zipD as bs).length + 1 = min (as.length + 1) (bs.length + 1)
    rw [zipD_len as bs]
    omega
/-- zip of two tuples -/
def zipT : List D → T (List D)
  | [.tup as, .tup bs] => .ret (zipD as bs)
  | _ => .fail
def zipLs : List D → T (List D)
  | [.lst as, .lst bs] => .ret (zipD as bs)
  | _ => .fail

/-! comprehensions -/
def compT (g : D → Rho → T Rho) (mt : Rho → T Bool) (me : Rho → T D) (ρ : Rho) : List D → List D → T (List D)
  | [], acc => .ret acc
  | d :: ds, acc => (g d ρ).bind fun ρ2 => (mt ρ2).bind fun b => cond b ((me ρ2).bind fun y => cond (small acc) (compT g mt me ρ ds (acc ++ [y])) .fail) (compT g mt me ρ ds acc)
def wipeR (ρ : Rho) : List Nat → Rho
  | [] => ρ
  | v :: vs => (wipeR ρ vs).set v .un
def yesT : Rho → T Bool := fun _ => .ret true
def lComp (vs : List Nat) (mi : Rho → T (List D)) (g : D → Rho → T Rho) (mt : Rho → T Bool) (me : Rho → T D) : Rho → T (List D) := fun ρ => (mi ρ).bind fun ds => compT g mt me (wipeR ρ vs) ds []

section
variable {X : Cx} {a b c e : Expr} {es : List Expr} {m ma mb : Rho → T D} {pos : Pos} {tg : Expr}
theorem vis_some {π : Addr} {N N' : Addr → Bool} {H H' : Hp} {a : Addr} {o : HO} (k : Kp π (Hide N H) (Hide N' H')) (na : N a = false) (ne : a ≠ π) (h : H a = some o) : N' a = false ∧ H' a = some o := by
  have := k a o ne (by rw [hide_in na]; exact h)
  exact hide_some this
theorem walk_list {π : Addr} {N : Addr → Bool} {H : Hp} {a : Addr} {vs : List V} {ds : List D} (ha : H a = some (.lst vs)) (na : N a = false) (ne : a ≠ π) (r : RvL X.K X.prog X.w π (Hide N H) vs ds) : Walk X π (Hide N H) (Itl X.K a) ds := fun N' H' i hn k => by
  obtain ⟨n', h'⟩ := vis_some k na ne ha
  have sq : SqL X.K H' a vs := .inl (.inl h')
  refine ⟨fun d hd => ?_, fun e => ⟨vs, sq, by rw [r.length, e]; exact Nat.le_refl _⟩⟩
  obtain ⟨v, hv, rv⟩ := r.get hd
  refine ⟨⟨vs, v, sq, hv⟩, fun x H2 y => ?_⟩
  obtain ⟨rfl, y⟩ := y
  have := y vs sq
  rw [hv] at this
  cases this
  exact ⟨Ex.refl hn.pot, rv.mono k⟩
theorem si_list (ha : Snd X a m) : SndI X tg a (iLst m) := fun {π N0 H0 N H σ ρ R} I h => ⟨_, pi_list pe_wp, ha I (T.all_mono (fun d hd => by
  intro v H2 e2 r
  cases d with
  | lst ds =>
    obtain ⟨a, vs, rfl, ha, na, ne, ra⟩ := id r.lstE
    exact ⟨a, rfl, ⟨vs, .inl (.inl ha)⟩, hd _ _ e2 (walk_list ha na ne ra)⟩
  | _ => exact False.elim hd) (T.all_bind.mp h))⟩
theorem sqt_kp {π : Addr} {N N' : Addr → Bool} {H H' : Hp} {v : V} {ds : List D} (k : Kp π (Hide N H) (Hide N' H')) (r : Rv X.K X.prog X.w π (Hide N H) v (.tup ds)) : ∃ a vs, v = .ref a ∧ SqT X.K H a vs ∧ SqT X.K H' a vs ∧ RvL X.K X.prog X.w π (Hide N H) vs ds ∧ RvL X.K X.prog X.w π (Hide N' H') vs ds := by
  cases r with
  | tup h n r =>
    obtain ⟨na, h1⟩ := hide_some h
    exact ⟨_, _, rfl, .inl (.inl h1), .inl (.inl (vis_some k na n h1).2), r, r.mono k⟩
  | tupK h r => exact ⟨_, _, rfl, h _, h _, r, r.mono k⟩
theorem walk_tup {π : Addr} {N : Addr → Bool} {H : Hp} {a : Addr} {ds : List D} (r : Rv X.K X.prog X.w π (Hide N H) (.ref a) (.tup ds)) : Walk X π (Hide N H) (Itt X.K a) ds := fun N' H' i hn k => by
  obtain ⟨a', vs, e, _, sq, _, ra⟩ := sqt_kp k r
  cases e
  refine ⟨fun d hd => ?_, fun e => ⟨vs, sq, by rw [ra.length, e]; exact Nat.le_refl _⟩⟩
  obtain ⟨v, hv, rv⟩ := ra.get hd
  refine ⟨⟨vs, v, sq, hv⟩, fun x H2 y => ?_⟩
  obtain ⟨rfl, y⟩ := y
  have := y vs sq
  rw [hv] at this
  cases this
  exact ⟨Ex.refl hn.pot, rv⟩
theorem si_tup (ha : Snd X a m) : SndI X tg a (iTp m) := fun {π N0 H0 N H σ ρ R} I h => ⟨_, pi_tup pe_wp, ha I (T.all_mono (fun d hd => by
  intro v H2 e2 r
  cases d with
  | tup ds =>
    obtain ⟨a, vs, rfl, ha, ra⟩ := id r.tupE
    exact ⟨a, rfl, ⟨vs, ha⟩, hd _ _ e2 (walk_tup r)⟩
  | _ => exact False.elim hd) (T.all_bind.mp h))⟩
theorem walk_range {π : Addr} {B : Hp} {lo : Int} {n : Nat} : Walk X π B (Itr lo n) (upto lo n) := fun N' H' i hn k => by
  refine ⟨fun d hd => ?_, fun e => by show n ≤ i; rw [e, upto_len]; exact Nat.le_refl _⟩
  obtain ⟨hi, rfl⟩ := upto_get hd
  refine ⟨hi, fun x H2 y => ?_⟩
  obtain ⟨rfl, rfl⟩ := y
  exact ⟨Ex.refl hn.pot, .int _⟩
theorem si_range1 {ms : Rho → T (List D)} {p : Pos} (hm : X.mg "range" = none) (ha : SndA X [a] ms) (hg : Gl X "range" := by rfl) (hs : starEach [a] X.env = [(false, eval a X.env)] := by rfl) : SndI X tg (.Call (.Name "range" p) [a] [] pos) (iRg rng1 ms) := fun {π N0 H0 N H σ ρ R} I h =>
  ⟨_, pi_range1 hg hm pa_wp hs, ha I (T.all_mono (fun ds hd => by
    intro vs H2 e2 r
    unfold rng1 at hd
    split at hd
    · obtain ⟨hb, hd⟩ := cond_all hd
      simp only [Bool.and_eq_true, decide_eq_true_eq] at hb
      cases r with
      | cons r t =>
        cases t; cases r
        exact ⟨_, rfl, by omega, by omega, hd _ _ e2 walk_range⟩
    · exact False.elim hd) (T.all_bind.mp h))⟩
theorem si_range2 {ms : Rho → T (List D)} {p : Pos} (hm : X.mg "range" = none) (ha : SndA X [a, b] ms) (hg : Gl X "range" := by rfl) (hs : starEach [a, b] X.env = [(false, eval a X.env), (false, eval b X.env)] := by rfl) (hs2 : starEach [b] X.env = [(false, eval b X.env)] := by rfl) : SndI X tg (.Call (.Name "range" p) [a, b] [] pos) (iRg rng2 ms) := fun {π N0 H0 N H σ ρ R} I h =>
  ⟨_, pi_range2 hg hm pa_wp hs hs2, ha I (T.all_mono (fun ds hd => by
    intro vs H2 e2 r
    unfold rng2 at hd
    split at hd
    · obtain ⟨hb, hd⟩ := cond_all hd
      simp only [Bool.and_eq_true, decide_eq_true_eq] at hb
      cases r with
      | cons r t =>
        cases t with
        | cons r2 t =>
          cases t; cases r; cases r2
          exact ⟨_, _, rfl, ⟨by omega, by omega, by omega, by omega⟩, hd _ _ e2 walk_range⟩
    · exact False.elim hd) (T.all_bind.mp h))⟩
theorem walk_zipT {π : Addr} {N : Addr → Bool} {H : Hp} {a b : Addr} {as bs : List D} (r : Rv X.K X.prog X.w π (Hide N H) (.ref a) (.tup as)) (r2 : Rv X.K X.prog X.w π (Hide N H) (.ref b) (.tup bs)) : Walk X π (Hide N H) (ItzT X.K a b) (zipD as bs) := fun N' H' i hn k => by
  obtain ⟨a', vs, e, _, sq, _, ra⟩ := sqt_kp k r
  cases e
  obtain ⟨b', us, e, _, sq2, _, rb⟩ := sqt_kp k r2
  cases e
  refine ⟨fun d hd => ?_, fun e => ⟨vs, us, sq, sq2, ?_⟩⟩
  · obtain ⟨x, y, hx, hy, rfl⟩ := zipD_get hd
    obtain ⟨v, hv, rv⟩ := ra.get hx
    obtain ⟨u, hu, ru⟩ := rb.get hy
    refine ⟨⟨vs, us, v, u, sq, sq2, hv, hu⟩, fun z H2 q => ?_⟩
    obtain ⟨T, x', y', rfl, hT, rfl, f1, f2⟩ := q
    have e1 := f1 vs sq
    have e2 := f2 us sq2
    rw [hv] at e1
    rw [hu] at e2
    cases e1; cases e2
    exact ⟨Ex.new hn.pot hT, .tup (hide_new (hn.new hT)) (hn.pot.ne hT) (.cons (rv.mono (Ex.new hn.pot hT).kp.hide) (.cons (ru.mono (Ex.new hn.pot hT).kp.hide) .nil))⟩
  · rw [zipD_len] at e
    rw [ra.length, rb.length]
    omega
theorem si_zipT {ms : Rho → T (List D)} {p tpos : Pos} {elts : List Expr} {kk : Nat} (hm : X.mg "zip" = none) (ha : SndA X [a, b] ms) (hg : Gl X "zip" := by rfl) (hs : starEach [a, b] X.env = (false, eval a X.env) :: starEach [b] X.env := by rfl) (hpl : (backTo pos (starEach [b] X.env)).any (·.1) = false := by rfl) :
    SndI X (.Tuple elts kk tpos) (.Call (.Name "zip" p) [a, b] [] pos) (iRg zipT ms) := fun {π N0 H0 N H σ ρ R} I h => ⟨_, pi_zipA hg hm pa_wp hs hpl, ha I (T.all_mono (fun ds hd => by
    intro vs H2 e2 r
    unfold zipT at hd
    split at hd
    · cases r with
      | cons r t =>
        cases t with
        | cons r2 t =>
          cases t
          obtain ⟨a, vs, rfl, ha, ra⟩ := id r.tupE
          obtain ⟨b, us, rfl, hb, rb⟩ := id r2.tupE
          exact ⟨a, b, vs, us, rfl, .inr ⟨ha, hb, hd _ _ e2 (walk_zipT r r2)⟩⟩
    · exact False.elim hd) (T.all_bind.mp h))⟩

/-! ### comprehensions -/
theorem wipe_ok {K : PySem.W.Frag} {P : Program} {w : World} {π : Addr} {N0 N : Addr → Bool} {H0 H : Hp} {σ : L2.St} {ρ : Rho} (I : EnvOk K P w π N0 H0 N H σ ρ) : ∀ vs : List Nat, EnvOk K P w π N0 H0 N H (wipe σ vs) (wipeR ρ vs)
  | [] => I
  | v :: vs => (wipe_ok I vs).wipe1
/-- the readings of a comprehension's pieces -/
def bE (X : Cx) (scope : Scope) (e : Expr) : TE := fun σ H Q => ∀ (s : Shared) (Hh : Hp) (C : Addr) (cl : List (Str × Addr)) (fp : List Addr), wpE (X.blk s Hh scope (compEnvC scope cl C X.env) fp) e σ H Q
def bG (X : Cx) (scope : Scope) (e : Expr) : TG := fun v σ H Q => ∀ (s : Shared) (Hh : Hp) (C : Addr) (cl : List (Str × Addr)) (fp : List Addr), wpG (X.blk s Hh scope (compEnvC scope cl C X.env) fp) e v σ H Q
def wpTs (X : Cx) (ifs : List Expr) : TT := fun σ H Q => ∃ te, PTs X ifs te ∧ te σ H Q
theorem pts_wp {ifs : List Expr} : PTs X ifs (wpTs X ifs) := ⟨fun pins s σ H Q I ⟨_, h, q⟩ => h.run pins s σ H Q I q⟩
def bT (X : Cx) (scope : Scope) (ifs : List Expr) : TT := fun σ H Q => ∀ (s : Shared) (Hh : Hp) (C : Addr) (cl : List (Str × Addr)) (fp : List Addr), wpTs (X.blk s Hh scope (compEnvC scope cl C X.env) fp) ifs σ H Q
def SndTs (X : Cx) (ifs : List Expr) (m : Rho → T Bool) : Prop := ∀ ⦃π : Addr⦄ ⦃N0 : Addr → Bool⦄ ⦃H0 : Hp⦄ ⦃N : Addr → Bool⦄ ⦃H : Hp⦄ ⦃σ : L2.St⦄ ⦃ρ : Rho⦄ ⦃Q : Bool → Hp → Prop⦄, EnvOk X.K X.prog X.w π N0 H0 N H σ ρ → (m ρ).all (fun b => ∀ H2, Ex π H H2 → Q b H2) → wpTs X ifs σ H Q
theorem ts_nil : SndTs X [] yesT := fun {_ _ _ _ _ _ _ _} I h => ⟨_, pts_nil, h _ (Ex.refl I.hn.pot)⟩
theorem ts_one {mt : Rho → T Bool} (hc : SndT X c mt) : SndTs X [c] mt := fun {_ _ _ _ _ _ _ _} I h => ⟨_, pts_one pt_wp, hc I h⟩

theorem EnvOk.hideNew {K : PySem.W.Frag} {P : Program} {w : World} {π : Addr} {N0 N : Addr → Bool} {H0 H H' : Hp} {σ : L2.St} {ρ : Rho} {l : Addr} {vs : List V} (I : EnvOk K P w π N0 H0 N H σ ρ) (e : Ex π H H') (hl : H l = none) (hl' : H' l = some (.lst vs)) (r : ∃ ds, RvL K P w π (Hide (plus N l) H') vs ds) : EnvOk K P w π N0 H0 (plus N l) H' σ ρ := by
  obtain ⟨ds, r⟩ := r
  have J := I.newAny (i := σ.length) (x := .own ds) e hl (by rw [hl']; exact fun z => by cases z) (.inl ⟨vs, ds, rfl, hl', r⟩)
  rw [List.set_eq_of_length_le (Nat.le_refl _), List.set_eq_of_length_le (by rw [I.len]; exact Nat.le_refl _)] at J
  exact J
/-- a hidden list that no name holds changes -/
theorem EnvOk.upHid {K : PySem.W.Frag} {P : Program} {w : World} {π : Addr} {N0 N : Addr → Bool} {H0 H : Hp} {σ : L2.St} {ρ : Rho} {l : Addr} {o : HO} (I : EnvOk K P w π N0 H0 N H σ ρ) (nl : N l = true) (n0 : N0 l = false)
    (no : ∀ (j : Nat) (f : Ent) (l' : Addr), ρ[j]? = some f → f.isOwn = true → σ[j]? = some (some (.ref l')) → l' ≠ l) : EnvOk K P w π N0 H0 N (upd H l o) σ ρ := by
  have lpi := N_ne I.hn nl
  have e : Hide N (upd H l o) = Hide N H := by
    funext a
    by_cases q : a = l
    · subst q; simp [Hide, nl]
    · unfold Hide; rw [upd_ne q]
  refine ⟨⟨?_, I.hn.npi, fun a h => ?_⟩, fun a u n h => ?_, I.sub, I.own0, I.len, fun j d h => ?_, fun j x h xo => ?_, I.inj⟩
  · obtain ⟨x, y, q, r⟩ := I.hn.pot
    exact ⟨x, y, by rw [upd_ne lpi.symm]; exact q, r⟩
  · by_cases q : a = l
    · subst q; rw [upd_same]; exact fun z => by cases z
    · rw [upd_ne q]; exact I.hn.isS a h
  · by_cases q : a = l
    · subst q
      rcases I.own0 a nl with z | z
      · rw [n0] at z; cases z
      · rw [z] at h; cases h
    · rw [upd_ne q]; exact I.ex a u n h
  · rw [e]; exact I.val j d h
  · rw [e]
    obtain ⟨l', o', a, n, n1, b, c⟩ := I.own j x h xo
    exact ⟨l', o', a, n, n1, by rw [upd_ne (no j _ l' h xo a)]; exact b, c⟩

theorem wipe_at {j : Nat} : ∀ (vs : List Nat) (τ τ' : L2.St), τ.length = τ'.length → j ∈ vs → (wipe τ vs)[j]? = (wipe τ' vs)[j]?
  | [], _, _, _, h => by cases h
  | u :: us, τ, τ', hl, hm => by
    unfold wipe
    by_cases q2 : u = j
    · subst q2
      by_cases c : u < (wipe τ us).length
      · rw [List.getElem?_set_self c, List.getElem?_set_self (by rw [wipe_length] at c ⊢; omega)]
      · rw [List.getElem?_eq_none (by rw [List.length_set]; omega), List.getElem?_eq_none (by rw [List.length_set]; rw [wipe_length] at c ⊢; omega)]
    · rw [List.getElem?_set_ne q2, List.getElem?_set_ne q2]
      exact wipe_at us τ τ' hl (by
        rcases List.mem_cons.mp hm with e | e
        · exact absurd e.symm q2
        · exact e)
theorem wipe_ext {vs : List Nat} {τ τ' : L2.St} (hl : τ.length = τ'.length) (h : ∀ j : Nat, j ∉ vs → τ[j]? = τ'[j]?) : wipe τ vs = wipe τ' vs := by
  refine List.ext_getElem? fun j => ?_
  by_cases c : j ∈ vs
  · exact wipe_at vs τ τ' hl c
  · rw [wipe_out c, wipe_out c]
    exact h j c
theorem wipe_wipe {vs : List Nat} {σ : L2.St} : wipe (wipe σ vs) vs = wipe σ vs := wipe_ext (wipe_length _ _) fun j hj => wipe_out hj
theorem wipe_set {vs : List Nat} {σ : L2.St} {i : Nat} {x : Option V} (hi : i ∈ vs) : wipe (σ.set i x) vs = wipe σ vs := wipe_ext (by rw [List.length_set]) fun j hj => List.getElem?_set_ne fun e => hj (by rw [← e]; exact hi)
/-- a comprehension's target: its own names alone are stored -/
def SndGw (X : Cx) (vs : List Nat) (tg : Expr) (g : D → Rho → T Rho) : Prop := ∀ ⦃π : Addr⦄ ⦃N0 : Addr → Bool⦄ ⦃H0 : Hp⦄ ⦃N : Addr → Bool⦄ ⦃H : Hp⦄ ⦃σ : L2.St⦄ ⦃ρ : Rho⦄ ⦃v : V⦄ ⦃d : D⦄ ⦃Q : L2.St → Hp → Prop⦄, EnvOk X.K X.prog X.w π N0 H0 N H σ ρ → Rv X.K X.prog X.w π (Hide N H) v d →
  (g d ρ).all (fun ρ' => ∀ σ', EnvOk X.K X.prog X.w π N0 H0 N H σ' ρ' → Q σ' H) → wpG X tg v σ H fun σ' H' => wipe σ' vs = wipe σ vs ∧ Q σ' H'
def SndGsw (X : Cx) (vs : List Nat) (tgs : List Expr) (g : List D → Rho → T Rho) : Prop := ∀ ⦃π : Addr⦄ ⦃N0 : Addr → Bool⦄ ⦃H0 : Hp⦄ ⦃N : Addr → Bool⦄ ⦃H : Hp⦄ ⦃σ : L2.St⦄ ⦃ρ : Rho⦄ ⦃us : List V⦄ ⦃ds : List D⦄ ⦃Q : L2.St → Hp → Prop⦄, EnvOk X.K X.prog X.w π N0 H0 N H σ ρ → RvL X.K X.prog X.w π (Hide N H) us ds →
  (g ds ρ).all (fun ρ' => ∀ σ', EnvOk X.K X.prog X.w π N0 H0 N H σ' ρ' → Q σ' H) → ∃ t, PGs X tgs t ∧ t us σ H fun σ' H' => wipe σ' vs = wipe σ vs ∧ Q σ' H'
theorem gw_name {i : Nat} {x : Str} {vs : List Nat} (hN : X.N.Nodup) (hm : i ∈ vs) (hi : X.N[i]? = some x := by rfl) (hx : Loc X.env.scope x := by first | exact .inl rfl | exact .inr rfl) (hf : X.fn x = true ∨ X.env.scope.names.lookup x = some .local := by first | exact .inl rfl | exact .inr rfl | assumption) : SndGw X vs (.Name x pos) (gNm i) := fun {_ _ _ _ _ _ _ _ _ _} I r h => ⟨_, pg_name hN hi hx hf, wipe_set hm, h _ (I.set r)⟩
theorem wpG_mono {e : Expr} {v : V} {σ : L2.St} {H : Hp} {Q Q' : L2.St → Hp → Prop} (h : wpG X e v σ H Q) (k : ∀ a b, Q a b → Q' a b) : wpG X e v σ H Q' := by
  obtain ⟨t, p, q⟩ := h
  exact ⟨fun v σ H Q => ∃ Q0, (∀ a b, Q0 a b → Q a b) ∧ t v σ H Q0, ⟨fun pins s σ H v u Q I r ⟨Q0, k, q⟩ => thn (p.run pins s σ H v u Q0 I r q) fun _ s' ⟨σ', H', I', z⟩ => ⟨σ', H', I', k _ _ z⟩⟩, Q, k, q⟩
theorem pgs_mono {es : List Expr} {us : List V} {σ : L2.St} {H : Hp} {Q Q' : L2.St → Hp → Prop} (h : ∃ t, PGs X es t ∧ t us σ H Q) (k : ∀ a b, Q a b → Q' a b) : ∃ t, PGs X es t ∧ t us σ H Q' := by
  obtain ⟨t, p, q⟩ := h
  exact ⟨fun v σ H Q => ∃ Q0, (∀ a b, Q0 a b → Q a b) ∧ t v σ H Q0, ⟨fun pins s σ H v u Q I r ⟨Q0, k, q⟩ => thn (p.run pins s σ H v u Q0 I r q) fun _ s' ⟨σ', H', I', z⟩ => ⟨σ', H', I', k _ _ z⟩⟩, Q, k, q⟩
theorem gsw_nil {vs : List Nat} : SndGsw X vs [] gsNil := fun {π N0 H0 N H σ ρ us ds Q} I r h => by
  cases r with
  | nil => exact ⟨_, pgs_nil, rfl, rfl, h _ I⟩
  | cons _ _ => exact False.elim h
theorem gsw_cons {vs : List Nat} {e : Expr} {es : List Expr} {g : D → Rho → T Rho} {gs : List D → Rho → T Rho} (h1 : SndGw X vs e g) (h2 : SndGsw X vs es gs) (hs : (assignEach (e :: es) X.env).map (·.2) = assign e X.env :: (assignEach es X.env).map (·.2) := by rfl) : SndGsw X vs (e :: es) (gsCons g gs) := fun {π N0 H0 N H σ ρ us ds Q} I r h => by
  cases r with
  | nil => exact False.elim h
  | cons r t =>
    refine ⟨_, pgs_cons (u := fun vs σ H Q => ∃ t, PGs X es t ∧ t vs σ H Q) pg_wp ⟨fun pins s σ H vs us Q I r ⟨_, h, q⟩ => h.run pins s σ H vs us Q I r q⟩ hs, _, _, rfl, ?_⟩
    refine wpG_mono (h1 (Q := fun σ1 H1 => ∃ tt, PGs X es tt ∧ tt _ σ1 H1 fun σ' H' => wipe σ' vs = wipe σ1 vs ∧ Q σ' H') I r (T.all_mono (fun ρ' hρ σ' I' => h2 I' t hρ) (T.all_bind.mp h))) fun σ1 H1 q => ?_
    obtain ⟨e1, q⟩ := q
    exact pgs_mono q fun σ2 H2 z => ⟨z.1.trans e1, z.2⟩
theorem gw_tup {vs : List Nat} {es : List Expr} {k n : Nat} {gs : List D → Rho → T Rho} (hc : X.calm = true) (h : SndGsw X vs es gs) (hn : (assignEach es X.env).length = n := by rfl) (hst : (assignEach es X.env).findIdx? (·.1) = none := by rfl) : SndGw X vs (.Tuple es k pos) (gTp n gs) := fun {π N0 H0 N H σ ρ v d Q} I r q => by
  unfold gTp at q
  split at q
  · obtain ⟨hl, q⟩ := cond_all q
    obtain ⟨a, us, rfl, ha, ra⟩ := id r.tupE
    exact ⟨_, pg_tup (t := fun vs σ H Q => ∃ t, PGs X es t ∧ t vs σ H Q) hc ⟨fun pins s σ H vs us Q I r ⟨_, h, q⟩ => h.run pins s σ H vs us Q I r q⟩ hn hst, a, us, rfl, ha, by rw [ra.length]; exact by simpa using hl, h I ra q⟩
  · exact False.elim q
/-- SndG in a comprehension: its own names alone are stored -/
theorem lc_run {π : Addr} {N0 N : Addr → Bool} {H0 H : Hp} {σ : L2.St} {ρ : Rho} {Q : VK} {tg it elt : Expr} {ifs : List Expr} {scope : Scope} {vs : List Nat} {mi : Rho → T (List D)} {g : D → Rho → T Rho} {mt : Rho → T Bool} {me : Rho → T D}
    (hi : SndI X tg it mi) (hg : ∀ s Hh C cl fp, SndGw (X.blk s Hh scope (compEnvC scope cl C X.env) fp) vs tg g) (ht : ∀ s Hh C cl fp, SndTs (X.blk s Hh scope (compEnvC scope cl C X.env) fp) ifs mt) (he : ∀ s Hh C cl fp, Snd (X.blk s Hh scope (compEnvC scope cl C X.env) fp) elt me)
    (I : EnvOk X.K X.prog X.w π N0 H0 N H σ ρ) (h : (lComp vs mi g mt me ρ).all (Kl X π N H Q)) : tLc (wpI X tg it) (bG X scope tg) (bT X scope ifs) (bE X scope elt) vs σ H Q := by
  refine hi I (T.all_mono (fun ds hds J H2 e2 wk => ?_) (T.all_bind.mp h))
  intro Dl hD
  have I2 := I.ext e2
  have hD0 : H Dl = none := by
    cases c : H Dl with
    | none => rfl
    | some o => rw [e2.kp Dl o (I2.hn.pot.ne hD) c] at hD; cases hD
  have eN : Ex π H2 (upd H2 Dl (.lst [])) := Ex.new I2.hn.pot hD
  have dpi := I2.hn.pot.ne hD
  have I3 : EnvOk X.K X.prog X.w π N0 H0 (plus N Dl) (upd H2 Dl (.lst [])) (wipe σ vs) (wipeR ρ vs) := wipe_ok (I2.hideNew eN hD upd_same ⟨[], .nil⟩) vs
  have n0 : N0 Dl = false := by
    cases c : N0 Dl with
    | false => rfl
    | true =>
      have := I2.hn.new hD
      rw [I2.sub Dl c] at this
      cases this
  -- no name holds the new list
  have no : ∀ (j : Nat) (f : Ent) (l' : Addr), (wipeR ρ vs)[j]? = some f → f.isOwn = true → (wipe σ vs)[j]? = some (some (.ref l')) → l' ≠ Dl := fun j f l' h1 o1 s1 => by
    have W := wipe_ok I2 vs
    have nD : ∀ {o : HO}, H2 l' = some o → l' ≠ Dl := fun {o} h z => by rw [z, hD] at h; cases h
    obtain ⟨l2, o2, a, _, _, b, _⟩ := W.own j f h1 o1
    rw [s1] at a
    cases a
    exact nD b
  refine ⟨fun i k H' => k = ds.length - i ∧ i ≤ ds.length ∧ ∃ acc accD, EnvOk X.K X.prog X.w π N0 H0 (plus N Dl) H' (wipe σ vs) (wipeR ρ vs) ∧ Kp π H2 H' ∧ H' Dl = some (.lst acc) ∧ RvL X.K X.prog X.w π (Hide (plus N Dl) H') acc accD ∧ (compT g mt me (wipeR ρ vs) (ds.drop i) accD).all (Kl X π N H Q),
    ⟨ds.length, rfl, Nat.zero_le _, [], [], I3, eN.kp, upd_same, .nil, hds⟩, ?_⟩
  rintro i k H' ⟨rfl, hle, acc, accD, I', kp, hDl, rl, hall⟩
  have vis : Kp π (Hide N H2) (Hide (plus N Dl) H') := fun a o n q => by
    obtain ⟨na, ha⟩ := hide_some q
    have ne : a ≠ Dl := fun z => by rw [z, hD] at ha; cases ha
    rw [hide_in (by simp [plus, na, ne])]
    exact kp a o n ha
  have w := wk (plus N Dl) H' i I'.hn vis
  by_cases hlt : i < ds.length
  · have hget : ds[i]? = some ds[i] := List.getElem?_eq_getElem hlt
    obtain ⟨go, yl⟩ := w.1 _ hget
    rw [List.drop_eq_getElem_cons hlt] at hall
    refine .inr ⟨go, fun H'' => ∃ acc accD, EnvOk X.K X.prog X.w π N0 H0 (plus N Dl) H'' (wipe σ vs) (wipeR ρ vs) ∧ Kp π H2 H'' ∧ H'' Dl = some (.lst acc) ∧ RvL X.K X.prog X.w π (Hide (plus N Dl) H'') acc accD ∧ (compT g mt me (wipeR ρ vs) (ds.drop (i + 1)) accD).all (Kl X π N H Q), fun H'' q => ⟨ds.length - (i + 1), by omega, rfl, hlt, q⟩, fun x H'' y => ?_⟩
    obtain ⟨e3, rx⟩ := yl x H'' y
    have I4 := I'.ext e3
    refine fun s Hh C cl fp => wpG_mono (hg s Hh C cl fp (Q := fun σ2 H2' => bT X scope ifs σ2 H2' fun b H3 => if b = true then bE X scope elt σ2 H3 fun y H4 => ∃ acc, H4 Dl = some (.lst acc) ∧ acc.length < sizeLine ∧
      (∃ acc' accD, EnvOk X.K X.prog X.w π N0 H0 (plus N Dl) (upd H4 Dl (.lst (acc ++ [y]))) (wipe σ vs) (wipeR ρ vs) ∧ Kp π H2 (upd H4 Dl (.lst (acc ++ [y]))) ∧ (upd H4 Dl (.lst (acc ++ [y]))) Dl = some (.lst acc') ∧ RvL X.K X.prog X.w π (Hide (plus N Dl) (upd H4 Dl (.lst (acc ++ [y])))) acc' accD ∧ (compT g mt me (wipeR ρ vs) (ds.drop (i + 1)) accD).all (Kl X π N H Q))
      else ∃ acc' accD, EnvOk X.K X.prog X.w π N0 H0 (plus N Dl) H3 (wipe σ vs) (wipeR ρ vs) ∧ Kp π H2 H3 ∧ H3 Dl = some (.lst acc') ∧ RvL X.K X.prog X.w π (Hide (plus N Dl) H3) acc' accD ∧ (compT g mt me (wipeR ρ vs) (ds.drop (i + 1)) accD).all (Kl X π N H Q))
      (I4 : EnvOk X.K X.prog X.w π N0 H0 (plus N Dl) H'' (wipe σ vs) (wipeR ρ vs)) rx (T.all_mono (fun ρ2 h2 => ?_) (T.all_bind.mp hall))) fun σ' H' q => ⟨q.1.trans wipe_wipe, q.2⟩
    intro σ2 I5 s Hh C cl fp
    refine ht s Hh C cl fp I5 (T.all_mono (fun b hb => ?_) (T.all_bind.mp h2))
    intro H5 e5
    have e35 := e3.trans e5
    cases b with
    | false => exact iteF ⟨acc, accD, I4.ext e5, kp.trans e35.kp, e35.kp Dl _ dpi hDl, rl.mono e35.kp.hide, hb⟩
    | true =>
      refine iteT fun s Hh C cl fp => he s Hh C cl fp (I5.ext e5 : EnvOk X.K X.prog X.w π N0 H0 (plus N Dl) H5 σ2 ρ2) (T.all_mono (fun y hy => ?_) (T.all_bind.mp hb))
      intro v H6 e6 rv
      obtain ⟨hsm, hy⟩ := cond_all hy
      have e36 := e35.trans e6
      have hD6 := e36.kp Dl _ dpi hDl
      have hd : Hide (plus N Dl) (upd H6 Dl (.lst (acc ++ [v]))) = Hide (plus N Dl) H6 := by
        funext a
        by_cases q : a = Dl
        · subst q; simp [Hide, plus]
        · unfold Hide; rw [upd_ne q]
      refine ⟨acc, hD6, by rw [rl.length]; exact Nat.lt_of_le_of_lt (of_decide_eq_true hsm) (by decide), acc ++ [v], accD ++ [y], ((I4.ext (e5.trans e6)).upHid plus_self n0 no), ?_, upd_same, ?_, hy⟩
      · intro a o n q
        have ne : a ≠ Dl := fun z => by rw [z, hD] at q; cases q
        rw [upd_ne ne]
        exact (kp.trans e36.kp) a o n q
      · rw [hd]
        exact (rl.mono e36.kp.hide).append (.cons rv .nil)
  · have e : i = ds.length := by omega
    subst e
    rw [List.drop_length] at hall
    exact .inl ⟨w.2 rfl, hall Dl acc H' ⟨e2.kp.trans kp, I'.hn.pot⟩ hD0 hDl rl⟩
end
end Pd

namespace Pd
open PySem L2

def runB (n : Nat) (m : Rho → T Out) : List D → T D := fun ds => (m (ds.map Ent.val ++ List.replicate (n - ds.length) Ent.un)).bind fun o => match o with
  | .nx _ => .ret .non
  | .rt d => .ret d
  | .bk _ => .fail
  | .ct _ => .fail
theorem env_start {K : PySem.W.Frag} {P : Program} {w : World} {π : Addr} {N : Addr → Bool} {H : Hp} {vs : List V} {ds : List D} {Nm : List Str} (hn : HN π N H) (r : RvL K P w π (Hide N H) vs ds) :
    EnvOk K P w π N H N H (L2.start Nm vs) (ds.map Ent.val ++ List.replicate (Nm.length - ds.length) Ent.un) := by
  have hl := r.length
  have at' : ∀ (i : Nat) (e : Ent), (ds.map Ent.val ++ List.replicate (Nm.length - ds.length) Ent.un)[i]? = some e → e = .un ∨ ∃ d, ds[i]? = some d ∧ e = .val d := fun i e h => by
    by_cases c : i < ds.length
    · rw [List.getElem?_append_left (by rw [List.length_map]; exact c), List.getElem?_map] at h
      cases q : ds[i]? with
      | none => rw [q] at h; cases h
      | some d => rw [q] at h; cases h; exact .inr ⟨d, rfl, rfl⟩
    · rw [List.getElem?_append_right (by rw [List.length_map]; omega), List.getElem?_replicate] at h
      split at h
      · cases h; exact .inl rfl
      · cases h
  refine ⟨hn, .refl, fun _ h => h, fun _ h => .inl h, ?_, fun i d h => ?_, fun i x h xo => ?_, fun i j e f l h1 h2 o1 o2 => ?_⟩
  · unfold L2.start
    rw [List.length_append, List.length_append, List.length_map, List.length_map, List.length_replicate, List.length_replicate, hl]
  · rcases at' i _ h with e | ⟨d', hd, e⟩
    · cases e
    · cases e
      obtain ⟨v, hv, rv⟩ := r.get hd
      refine ⟨v, ?_, rv⟩
      have c : i < vs.length := (List.getElem?_eq_some_iff.mp hv).1
      unfold L2.start
      rw [List.getElem?_append_left (by rw [List.length_map]; exact c), List.getElem?_map, hv]
      rfl
  · rcases at' i _ h with e | ⟨d', hd, e⟩ <;> (subst e; cases xo)
  · rcases at' i _ h1 with e | ⟨d', hd, e⟩ <;> (subst e; cases o1)
section
variable {P : Program} {w : World} {K : PySem.W.Frag} {mg : Str → Option Value} {base : Heap}
/-- a def of the text, by its body's reading -/
theorem fn_ok {x qual : Str} {st : Stmt} {f : Addr} {fd : FuncData} {Nm ps : List Str} {k n p : Nat} {m : Rho → T Out} {G : List D → T D} (F : Fun K x qual st f fd) (S : FnScope Nm ps (defScope st)) (hn : Nm.length = n) (hp : ps.length = p) (hG : G = runB n m)
    (hb : ∀ (cdv : Value) (A : Around) (outer : List Env) (s : Shared) (H : Hp) (E : XK), Room k (A.deeper (PyProof.Rows.envOfC qual (defScope st) s.heap.objs.size f cdv)) → SndB (cxOf CX0 P w K mg base Nm qual (defScope st) f cdv A outer s H E).nox (defBody st) m) :
    FnOk P w K mg base CX0 (k + 1) f fd ps (spD K P w p G) := by
  subst hn hp hG
  refine F.ok S (fun vs H Q E h => ?_) (fun cdv A outer s H vs Q E hr h => ?_)
  · obtain ⟨π, N, ds, hn, r, hl, _⟩ := h
    exact hl
  · obtain ⟨π, N, ds, hn, r, hl, hall⟩ := h
    refine hb cdv A outer s H E hr (env_start hn r) (T.all_mono (fun o ho => ?_) (T.all_bind.mp hall))
    cases o with
    | nx ρ => exact fun N' H' σ' I => ho .non H' ⟨I.ex, I.hn.pot⟩ .non
    | rt d => exact fun v H' e r => ho v H' e r
    | bk ρ => exact False.elim ho
    | ct ρ => exact False.elim ho
end
section
variable {X : Cx} {a b c e : Expr} {es : List Expr} {m ma mb : Rho → T D} {pos : Pos} {tg it elt : Expr} {ifs : List Expr} {scope : Scope} {own : List (Str × Nat)} {mi : Rho → T (List D)} {g : D → Rho → T Rho} {mt : Rho → T Bool} {me : Rho → T D}
theorem sl_comp (own : List (Str × Nat)) {vs : List Nat} (hv : own.map (·.2) = vs) (hc : X.calm = true) (hN : X.N.Nodup) (ok : BlkOk X.N X.env.scope scope own) (hi : SndI X tg it mi) (hg : ∀ s Hh C cl fp, SndGw (X.blk s Hh scope (compEnvC scope cl C X.env) fp) vs tg g) (ht : ∀ s Hh C cl fp, SndTs (X.blk s Hh scope (compEnvC scope cl C X.env) fp) ifs mt) (he : ∀ s Hh C cl fp, Snd (X.blk s Hh scope (compEnvC scope cl C X.env) fp) elt me)
    (hs : ∀ x, foldedSetIterable it X.env x = pure x := by intro _; rfl) : SndL X (.ListComp elt [⟨tg, it, ifs, 0⟩] scope pos) (lComp vs mi g mt me) := fun {_ _ _ _ _ _ _ _} I h =>
  ⟨_, pe_lc (g := bG X scope tg) (tt := bT X scope ifs) (te := bE X scope elt) hc hN pi_wp ok (fun s H C cl fp => ⟨fun pins s' σ H' v u Q I r h => pg_wp.run pins s' σ H' v u Q I r (h s H C cl fp)⟩) (fun s H C cl fp => ⟨fun pins s' σ H' Q I h => pts_wp.run pins s' σ H' Q I (h s H C cl fp)⟩)
    (fun s H C cl fp => ⟨fun pins s' σ H' Q I h => pe_wp.run pins s' σ H' Q I (h s H C cl fp)⟩) hs, by rw [hv]; exact lc_run hi hg ht he I h⟩
theorem ss_ownLc {i : Nat} {y : Str} {py spos : Pos} (own : List (Str × Nat)) {vs : List Nat} (hv : own.map (·.2) = vs) (hc : X.calm = true) (hN : X.N.Nodup) (ok : BlkOk X.N X.env.scope scope own) (hi : SndI X tg it mi) (hg : ∀ s Hh C cl fp, SndGw (X.blk s Hh scope (compEnvC scope cl C X.env) fp) vs tg g) (ht : ∀ s Hh C cl fp, SndTs (X.blk s Hh scope (compEnvC scope cl C X.env) fp) ifs mt) (he : ∀ s Hh C cl fp, Snd (X.blk s Hh scope (compEnvC scope cl C X.env) fp) elt me)
    (hsw : swapsWith (.ListComp elt [⟨tg, it, ifs, 0⟩] scope pos) (some (.Name y py)) spos.line X.env = pure true) (hy : X.N[i]? = some y := by rfl) (hyl : X.env.scope.names.lookup y = some .local := by rfl) (hs : ∀ x, foldedSetIterable it X.env x = pure x := by intro _; rfl) : SndS X (.Assign [.Name y py] (.ListComp elt [⟨tg, it, ifs, 0⟩] scope pos) spos) (sOwn i (lComp vs mi g mt me)) := fun {π N0 H0 N H σ ρ De} I h =>
  ⟨_, ps_setLc (g := bG X scope tg) (tt := bT X scope ifs) (te := bE X scope elt) hc hN hy hyl hsw pi_wp ok (fun s H C cl fp => ⟨fun pins s' σ H' v u Q I r h => pg_wp.run pins s' σ H' v u Q I r (h s H C cl fp)⟩) (fun s H C cl fp => ⟨fun pins s' σ H' Q I h => pts_wp.run pins s' σ H' Q I (h s H C cl fp)⟩)
    (fun s H C cl fp => ⟨fun pins s' σ H' Q I h => pe_wp.run pins s' σ H' Q I (h s H C cl fp)⟩) hs, by
    rw [hv]
    exact lc_run (Q := fun x H1 => De.nx (σ.set i (some x)) H1) hi hg ht he I (T.all_mono (fun ds hd => by intro l vs H2 e2 hl h2 r; exact hd _ _ _ (I.newAny e2 hl (by rw [h2]; exact fun z => by cases z) (.inl ⟨vs, ds, rfl, h2, r⟩))) (T.all_bind.mp h))⟩
/-! two or three names at once -/
def sPar (i j : Nat) (ma mb : Rho → T D) : Rho → T Out := fun ρ => (ma ρ).bind fun x => (mb ρ).bind fun y => .ret (.nx ((ρ.set i (.val x)).set j (.val y)))
def sPar3 (i j l : Nat) (ma mb mc : Rho → T D) : Rho → T Out := fun ρ => (ma ρ).bind fun x => (mb ρ).bind fun y => (mc ρ).bind fun z => .ret (.nx (((ρ.set i (.val x)).set j (.val y)).set l (.val z)))
theorem ss_par {i j : Nat} {x y : Str} {px py pt : Pos} {kt k2 pt2} (hc : X.calm = true) (hN : X.N.Nodup) (ha : Snd X a ma) (hb : Snd X b mb) (hij : i ≠ j := by decide) (hi : X.N[i]? = some x := by rfl) (hj : X.N[j]? = some y := by rfl)
    (hx : X.env.scope.names.lookup x = some .local := by rfl) (hy : X.env.scope.names.lookup y = some .local := by rfl)
    (hw : swappedStores [.Tuple [.Name x px, .Name y py] kt pt] (.Tuple [a, b] k2 pt2) X.env = pure (some [x, y]) := by rfl)
    (hs : swapsWithSole [.Tuple [.Name x px, .Name y py] kt pt] (.Tuple [a, b] k2 pt2) pos.line X.env = pure false := by rfl) (he : starEach [a, b] X.env = (false, eval a X.env) :: starEach [b] X.env := by rfl) (he2 : starEach [b] X.env = (false, eval b X.env) :: starEach [] X.env := by rfl) :
    SndS X (.Assign [.Tuple [.Name x px, .Name y py] kt pt] (.Tuple [a, b] k2 pt2) pos) (sPar i j ma mb) := fun {π N0 H0 N H σ ρ De} I h => ⟨_, ps_par hc hN hi hj hij hx hy (pa_cons pe_wp (pa_cons pe_wp pa_nil he2) he) hw hs, by
  refine ha I (T.all_mono (fun d hd => ?_) (T.all_bind.mp h))
  intro v H1 e1 r1
  refine hb (I.ext e1) (T.all_mono (fun d2 hd => ?_) (T.all_bind.mp hd))
  intro u H2 e2 r2
  exact ⟨v, u, rfl, hd _ _ _ ((((I.ext e1).ext e2).set (r1.mono e2.kp.hide)).set r2)⟩⟩
theorem ss_par3 {i j l : Nat} {x y z : Str} {px py pz pt : Pos} {kt k2 pt2} {mc : Rho → T D} (hc : X.calm = true) (hN : X.N.Nodup) (ha : Snd X a ma) (hb : Snd X b mb) (hcc : Snd X c mc) (hij : i ≠ j := by decide) (hil : i ≠ l := by decide) (hjl : j ≠ l := by decide) (hi : X.N[i]? = some x := by rfl) (hj : X.N[j]? = some y := by rfl) (hl : X.N[l]? = some z := by rfl)
    (hx : X.env.scope.names.lookup x = some .local := by rfl) (hy : X.env.scope.names.lookup y = some .local := by rfl) (hz : X.env.scope.names.lookup z = some .local := by rfl)
    (hw : swappedStores [.Tuple [.Name x px, .Name y py, .Name z pz] kt pt] (.Tuple [a, b, c] k2 pt2) X.env = pure (some [x, y, z]) := by rfl)
    (hs : swapsWithSole [.Tuple [.Name x px, .Name y py, .Name z pz] kt pt] (.Tuple [a, b, c] k2 pt2) pos.line X.env = pure false := by rfl) (he : starEach [a, b, c] X.env = (false, eval a X.env) :: starEach [b, c] X.env := by rfl) (he2 : starEach [b, c] X.env = (false, eval b X.env) :: starEach [c] X.env := by rfl) (he3 : starEach [c] X.env = (false, eval c X.env) :: starEach [] X.env := by rfl) :
    SndS X (.Assign [.Tuple [.Name x px, .Name y py, .Name z pz] kt pt] (.Tuple [a, b, c] k2 pt2) pos) (sPar3 i j l ma mb mc) := fun {π N0 H0 N H σ ρ De} I h => ⟨_, ps_par3 hc hN hi hj hl hij hil hjl hx hy hz (pa_cons pe_wp (pa_cons pe_wp (pa_cons pe_wp pa_nil he3) he2) he) hw hs, by
  refine ha I (T.all_mono (fun d hd => ?_) (T.all_bind.mp h))
  intro v H1 e1 r1
  refine hb (I.ext e1) (T.all_mono (fun d2 hd => ?_) (T.all_bind.mp hd))
  intro u H2 e2 r2
  refine hcc ((I.ext e1).ext e2) (T.all_mono (fun d3 hd => ?_) (T.all_bind.mp hd))
  intro t H3 e3 r3
  exact ⟨v, u, t, rfl, hd _ _ _ (((((I.ext e1).ext e2).ext e3).set (r1.mono (e2.trans e3).kp.hide)).set (r2.mono e3.kp.hide) |>.set r3)⟩⟩
/-! unary minus -/
def uNeg : D → T D
  | .int i => .ret (.int (-i))
  | _ => .fail
def eUn (f : D → T D) (ma : Rho → T D) : Rho → T D := fun ρ => (ma ρ).bind f
theorem s_neg (ha : Snd X a ma) : Snd X (.UnaryOp .USub a pos) (eUn uNeg ma) := fun {π N0 H0 N H σ ρ Q} I h => ⟨_, pe_un un_neg pe_wp, ha I (T.all_mono (fun d hd => by
  intro v H2 e2 r
  cases d with
  | int i => cases r; exact ⟨_, rfl, hd _ _ e2 (.int _)⟩
  | _ => exact False.elim hd) (T.all_bind.mp h))⟩
/-! f(k = v, ..) -/
def SndK (X : Cx) (kws : List Keyword) (ms : Rho → T (List D)) : Prop := ∀ ⦃π : Addr⦄ ⦃N0 : Addr → Bool⦄ ⦃H0 : Hp⦄ ⦃N : Addr → Bool⦄ ⦃H : Hp⦄ ⦃σ : L2.St⦄ ⦃ρ : Rho⦄ ⦃Q : List V → Hp → Prop⦄, EnvOk X.K X.prog X.w π N0 H0 N H σ ρ → (ms ρ).all (Ka X π N H Q) → ∃ t, PK X kws t ∧ t σ H Q
theorem sk_nil : SndK X [] aNil := fun {_ _ _ _ _ _ _ _} I h => ⟨_, pk_nil, h _ _ (Ex.refl I.hn.pot) .nil⟩
def wpK (X : Cx) (kws : List Keyword) : TA := fun σ H Q => ∃ t, PK X kws t ∧ t σ H Q
theorem pk_wp {kws : List Keyword} : PK X kws (wpK X kws) := ⟨fun pos pins s σ H Q I ⟨_, h, q⟩ => h.run pos pins s σ H Q I q⟩
theorem sk_cons {kws : List Keyword} {nm : Option Str} {kpos : Pos} {ms : Rho → T (List D)} (ha : Snd X e m) (hr : SndK X kws ms) : SndK X (⟨nm, e, kpos⟩ :: kws) (aCons m ms) := fun {_ _ _ _ _ _ _ _} I h =>
  ⟨_, pk_cons pe_wp pk_wp, by
    refine ha I (T.all_mono (fun dx hx => ?_) (T.all_bind.mp h))
    intro v H1 e1 r1
    refine hr (I.ext e1) (T.all_mono (fun dy hy => ?_) (T.all_bind.mp hx))
    intro vs H2 e2 r2
    exact hy _ _ (e1.trans e2) (.cons (r1.mono e2.kp.hide) r2)⟩
end
end Pd

namespace Pd
open PySem L2
section
variable {X : Cx} {pos : Pos}
theorem s_globI {x : Str} {v : Int} (h : ∃ t, X.mg x = some (.int v t)) (hg : Gl X x := by rfl) (hd : (x == ("__debug__" : Str)) = false := by decide) : Snd X (.Name x pos) (eC (.int v)) := fun {_ _ _ _ _ _ _ _} I q => by
  obtain ⟨t, h⟩ := h
  exact ⟨_, pe_glob hg h (v := .int v) ⟨t, rfl⟩ hd, q _ _ (Ex.refl I.hn.pot) (.int v)⟩
/-! isinstance -/
inductive Ty5 where
  | int | bool | str | tuple | list | non
def Ty5.nm : Ty5 → String
  | .int => "int"
  | .bool => "bool"
  | .str => "str"
  | .tuple => "tuple"
  | .list => "list"
  | .non => "NoneType"
def Ty5.sub : Ty5 → Ty5 → Bool
  | .int, .int => true
  | .bool, .bool => true
  | .bool, .int => true
  | .str, .str => true
  | .tuple, .tuple => true
  | .list, .list => true
  | .non, .non => true
  | _, _ => false
theorem kitB_sub (a b : Ty5) : kitB a.nm b.nm = some (Ty5.sub a b) := by
  cases a <;> cases b <;> decide +kernel
def tyD : D → Option Ty5
  | .non => some .non
  | .bl _ => some .bool
  | .int _ => some .int
  | .str _ => some .str
  | .tup _ => some .tuple
  | .lst _ => some .list
  | .dic _ => none
  | .pot => none
  | .ins _ _ => none
def isD (k : Ty5) (d : D) : T D := match tyD d with
  | some t => .ret (.bl (Ty5.sub t k))
  | none => .fail
theorem ty_of {K : PySem.W.Frag} {P : Program} {w : World} {π : Addr} {N : Addr → Bool} {H : Hp} {v : V} {d : D} {t : Ty5} (r : Rv K P w π (Hide N H) v d) (h : tyD d = some t) : TyX K H v (.type t.nm) := by
  cases r with
  | non => cases h; exact .base .non
  | bl b => cases h; exact .base (.bl b)
  | int b => cases h; exact .base (.int b)
  | str b => cases h; exact .base (.str b)
  | tup a n r => cases h; exact .base (.tup (hide_some a).2)
  | tupK a r =>
    cases h
    rcases a (fun _ => none) with (z | ⟨o, z⟩) | ⟨o, _, _, z1, z2, _⟩
    · cases z
    · cases z
    · exact .kTuple z1 z2
  | lst a n r => cases h; exact .base (.lst (hide_some a).2)
  | dic a n r => cases h
  | pot => cases h
  | ins _ _ _ _ => cases h
theorem s_isinst {e : Expr} {m : Rho → T D} {k : Ty5} {ty : Str} {p p2 : Pos} (hm : X.mg "isinstance" = none) (hmt : X.mg ty = none) (hb : bootBuiltins ty = some (.type k.nm)) (ha : Snd X e m) (hg : Gl X "isinstance" := by rfl) (hgt : Gl X ty := by rfl) (hbi : bootBuiltins "isinstance" = some (.builtin "isinstance") := by decide +kernel) (hn : ty ≠ "__name__" := by decide) (hd : (ty == ("__debug__" : Str)) = false := by decide)
    (he : starEach [e, .Name ty p] X.env = (false, eval e X.env) :: starEach [.Name ty p] X.env := by rfl) (he2 : starEach [.Name ty p] X.env = (false, eval (.Name ty p) X.env) :: starEach [] X.env := by rfl) (hpl : (backTo pos (starEach [.Name ty p] X.env)).any (·.1) = false := by rfl) :
    Snd X (.Call (.Name "isinstance" p2) [e, .Name ty p] [] pos) (eUn (isD k) m) := fun {π N0 H0 N H σ ρ Q} I h =>
  ⟨_, pe_callB call_isi hg hm hbi (pa_cons pe_wp (pa_cons (pe_bltn (v := .ty k.nm) hgt hmt hb rfl hn hd) pa_nil he2) he) (by decide) (by decide) he hpl, ha I (T.all_mono (fun d hd => by
    intro v H2 e2 r
    unfold isD at hd
    cases c : tyD d with
    | none => rw [c] at hd; exact False.elim hd
    | some t =>
      rw [c] at hd
      exact ⟨v, .ty k.nm, .type t.nm, .type k.nm, Ty5.sub t k, rfl, .ty _, ty_of r c, kit_ty (kitB_sub t k), hd _ _ e2 (.bl _)⟩) (T.all_bind.mp h))⟩
end
end Pd

/-! Dicts with nested keys. -/
namespace Pd
open PySem L2

section
variable {X : Cx} {π : Addr} {N : Addr → Bool} {H : Hp} {pins : List (Addr × Obj)} {σ : L2.St} {s : Shared}
mutual
theorem Rv.nested (I : Inv X pins σ H s) : ∀ {d : D} {v : V} {k : NestedKey} {u : Value}, Rv X.K X.prog X.w π (Hide N H) v d → d.nk = some k → RelV v u → NestedIs s.heap k u
  | _, _, _, _, .non, h, r => by cases h; cases r; exact .none
  | _, _, _, _, .bl b, h, r => by cases h; cases r; exact .bool rfl
  | _, _, _, _, .int i, h, r => by cases h; obtain ⟨t, rfl⟩ := r; exact .int i t
  | _, _, _, _, .str x, h, r => by cases h; obtain ⟨t, rfl⟩ := r; exact .text x t
  | .tup ds, _, k, _, .tup a n q, h, r => by
    unfold D.nk at h
    cases e : D.nks ds with
    | none => rw [e] at h; cases h
    | some ks =>
      rw [e] at h; cases h; cases r
      obtain ⟨its, rv, ⟨o, ho, hc, m, hd⟩, _⟩ := I.tuple (.inl (.inl (hide_some a).2))
      exact .tup ho hc hd (RvL.nested I q e (by simpa using rv))
  | .tup ds, _, k, _, .tupK a q, h, r => by
    unfold D.nk at h
    cases e : D.nks ds with
    | none => rw [e] at h; cases h
    | some ks =>
      rw [e] at h; cases h; cases r
      obtain ⟨its, rv, ⟨o, ho, hc, m, hd⟩, _⟩ := I.tuple (a H)
      exact .tup ho hc hd (RvL.nested I q e (by simpa using rv))
  | .lst _, _, _, _, _, h, _ => by unfold D.nk at h; cases h
  | .dic _, _, _, _, _, h, _ => by unfold D.nk at h; cases h
  | .pot, _, _, _, _, h, _ => by unfold D.nk at h; cases h
  | .ins _ _, _, _, _, _, h, _ => by unfold D.nk at h; cases h
theorem RvL.nested (I : Inv X pins σ H s) : ∀ {ds : List D} {vs : List V} {ks : List NestedKey} {us : List Value}, RvL X.K X.prog X.w π (Hide N H) vs ds → D.nks ds = some ks → Vals vs us → NestedAll s.heap ks us
  | _, _, _, _, .nil, h, r => by unfold D.nks at h; cases h; cases r; exact .nil
  | d :: ds, _, ks, _, .cons q t, h, r => by
    unfold D.nks at h
    cases e : D.nk d with
    | none => rw [e] at h; cases h
    | some k =>
      rw [e] at h
      cases e2 : D.nks ds with
      | none => rw [e2] at h; cases h
      | some ks' =>
        rw [e2] at h; cases h
        cases r with
        | cons r1 r2 => exact .cons (Rv.nested I q e r1) (RvL.nested I t e2 r2)
end
end

/-! ### entries by keys -/
def putX {α : Type} : List (NestedKey × Addr × α) → NestedKey → Addr → α → List (NestedKey × Addr × α)
  | [], k, a, v => [(k, a, v)]
  | x :: r, k, a, v => if x.1 = k then (x.1, x.2.1, v) :: r else x :: putX r k a v
def valX : List (NestedKey × Addr × V) → NestedKey → Option V
  | [], _ => none
  | x :: r, k => if x.1 = k then some x.2.2 else valX r k
theorem stored_rec {k : NestedKey} {a : Addr} {v : Value} : ∀ {ys : List (NestedKey × Addr × Value)}, (ys.map (·.1)).Nodup → storedH ys k a v = putX ys k a v
  | [], _ => by simp [storedH, atKey, putX]
  | y :: r, hn => by
    rw [List.map_cons, List.nodup_cons] at hn
    by_cases e : y.1 = k
    · have at' : (atKey (y :: r) k).isSome = true := by simp [atKey, e]
      unfold storedH putX
      rw [if_pos at', if_pos e, List.map_cons]
      congr 1
      · unfold putAt; rw [if_pos e]
      · refine (List.map_congr_left (g := id) fun x hx => ?_).trans (List.map_id r)
        unfold putAt
        rw [if_neg (fun z => hn.1 (by rw [e, ← z]; exact List.mem_map_of_mem hx))]
        rfl
    · have ih := stored_rec (k := k) (a := a) (v := v) hn.2
      unfold putX
      rw [if_neg e, ← ih]
      have at' : atKey (y :: r) k = atKey r k := by simp [atKey, e]
      unfold storedH
      rw [at']
      split
      · rw [List.map_cons]; congr 1; unfold putAt; rw [if_neg e]
      · rfl

def hasK (k : NestedKey) (d : D) : Bool := match d.nk with
  | some k' => NestedKey.beq k' k
  | none => false
def dAt : List (D × D) → NestedKey → Option D
  | [], _ => none
  | x :: r, k => cond (hasK k x.1) (some x.2) (dAt r k)
def dPut : List (D × D) → NestedKey → D → D → List (D × D)
  | [], _, dk, dv => [(dk, dv)]
  | x :: r, k, dk, dv => cond (hasK k x.1) ((x.1, dv) :: r) (x :: dPut r k dk dv)
theorem hasK_eq {k k' : NestedKey} {d : D} (h : d.nk = some k') : hasK k d = decide (k' = k) := by
  unfold hasK
  rw [h, NestedKey.decide_eq]

abbrev PX : List (NestedKey × Addr × V) → List (NestedKey × Addr × Value) → Prop := Paired fun p q => p.1 = q.1 ∧ p.2.1 = q.2.1 ∧ RelV p.2.2 q.2.2
theorem PX.val {k : NestedKey} {xs : List (NestedKey × Addr × V)} {ys : List (NestedKey × Addr × Value)} (r : PX xs ys) : RelO (valX xs k) ((atKey ys k).map (·.2)) := by
  induction r with
  | nil => exact True.intro
  | @cons p q ps qs h t ih =>
    obtain ⟨h1, h2, h3⟩ := h
    by_cases e : p.1 = k
    · have e2 : q.1 = k := by rw [← h1]; exact e
      simp only [valX, atKey, e, e2, if_true, List.find?_cons, decide_true, Option.map_some]
      exact h3
    · have e2 : ¬ q.1 = k := by rw [← h1]; exact e
      have z : atKey (q :: qs) k = atKey qs k := by simp [atKey, e2]
      rw [z]
      simp only [valX, if_neg e]
      exact ih
theorem PX.put {k : NestedKey} {a : Addr} {v : V} {u : Value} (rv : RelV v u) {xs : List (NestedKey × Addr × V)} {ys : List (NestedKey × Addr × Value)} (r : PX xs ys) : PX (putX xs k a v) (putX ys k a u) := by
  induction r with
  | nil => exact .cons ⟨rfl, rfl, rv⟩ .nil
  | @cons p q ps qs h t ih =>
    by_cases e : p.1 = k
    · have e2 : q.1 = k := by rw [← h.1]; exact e
      unfold putX
      rw [if_pos e, if_pos e2]
      exact .cons ⟨h.1, h.2.1, rv⟩ t
    · have e2 : ¬ q.1 = k := by rw [← h.1]; exact e
      unfold putX
      rw [if_neg e, if_neg e2]
      exact .cons h ih
theorem PX.keys {xs : List (NestedKey × Addr × V)} {ys : List (NestedKey × Addr × Value)} (r : PX xs ys) : xs.map (·.1) = ys.map (·.1) := by
  induction r with
  | nil => rfl
  | cons h t ih => rw [List.map_cons, List.map_cons, h.1, ih]
theorem putX_len {α : Type} {k : NestedKey} {a : Addr} {v : α} : ∀ {xs : List (NestedKey × Addr × α)}, (putX xs k a v).length ≤ xs.length + 1
  | [] => Nat.le_refl _
  | x :: r => by
    unfold putX
    split
    · simp
    · have := putX_len (k := k) (a := a) (v := v) (xs := r)
      simp; exact this
section
variable {K : PySem.W.Frag} {P : Program} {w : World} {π : Addr} {H : Hp}
theorem RvD.length : ∀ {kvs : List (D × D)} {xs : List (NestedKey × Addr × V)}, RvD K P w π H xs kvs → xs.length = kvs.length
  | _, _, .nil => rfl
  | _, _, .cons _ _ _ _ t => congrArg Nat.succ (RvD.length t)
theorem RvD.val {k : NestedKey} : ∀ {kvs : List (D × D)} {xs : List (NestedKey × Addr × V)}, RvD K P w π H xs kvs → match dAt kvs k with
    | some d => ∃ v, valX xs k = some v ∧ Rv K P w π H v d
    | none => valX xs k = none
  | _, _, .nil => rfl
  | _, _, .cons (k := k') (dk := dk) e dp rk r t => by
    have ih := RvD.val (k := k) t
    unfold dAt valX
    rw [hasK_eq e]
    by_cases q : k' = k
    · simp only [q, decide_true, cond_true, if_true]
      exact ⟨_, rfl, r⟩
    · simp only [q, decide_false, cond_false, if_false]
      exact ih
theorem RvD.put {k : NestedKey} {a : Addr} {v : V} {dk dv : D} (e : dk.nk = some k) (dp : k.depth ≤ 8) (rk : Rv K P w π H (.ref a) dk) (rv : Rv K P w π H v dv) : ∀ {kvs : List (D × D)} {xs : List (NestedKey × Addr × V)}, RvD K P w π H xs kvs → RvD K P w π H (putX xs k a v) (dPut kvs k dk dv)
  | _, _, .nil => .cons e dp rk rv .nil
  | _, _, .cons (k := k') e' dp' rk' r t => by
    have ih := RvD.put e dp rk rv t
    unfold putX dPut
    rw [hasK_eq e']
    by_cases q : k' = k
    · simp only [q, decide_true, cond_true, if_true]
      subst q
      exact .cons e' dp' rk' rv t
    · simp only [q, decide_false, cond_false, if_false]
      exact .cons e' dp' rk' r ih
theorem RvD.get : ∀ {kvs : List (D × D)} {xs : List (NestedKey × Addr × V)} {i : Nat} {p : D × D}, RvD K P w π H xs kvs → kvs[i]? = some p → ∃ k a v, xs[i]? = some (k, a, v) ∧ Rv K P w π H (.ref a) p.1 ∧ Rv K P w π H v p.2
  | _, _, _, _, .nil, e => by simp at e
  | _, _, 0, _, .cons _ _ rk r _, e => by simp at e; subst e; exact ⟨_, _, _, rfl, rk, r⟩
  | _, _, i + 1, _, .cons _ _ _ _ t, e => RvD.get (i := i) t e
end

section
variable {X : Cx} {π : Addr} {N : Addr → Bool} {H : Hp} {pins : List (Addr × Obj)} {σ : L2.St} {s : Shared}
/-- the entries' keys are keys -/
theorem RvD.keys (I : Inv X pins σ H s) : ∀ {kvs : List (D × D)} {xs : List (NestedKey × Addr × V)} {ys : List (NestedKey × Addr × Value)}, RvD X.K X.prog X.w π (Hide N H) xs kvs → PX xs ys → ∀ y ∈ ys, (nestedKind X.prog X.w).is s.heap y.1 y.2.1
  | _, _, _, .nil, .nil => fun _ h => nomatch h
  | _, _, _, .cons e dp rk r t, .cons h p => fun y hy => by
    rcases List.mem_cons.mp hy with z | z
    · subst z
      have h1 : _ = y.1 := h.1
      have h2 : _ = y.2.1 := h.2.1
      rw [← h1, ← h2]
      exact ⟨Rv.nested I rk e rfl, dp⟩
    · exact RvD.keys I t p y z
def KeyAt (X : Cx) (H : Hp) (b : Addr) (k : NestedKey) : Prop := k.depth ≤ 8 ∧ ∃ (π : Addr) (N : Addr → Bool) (d : D), Rv X.K X.prog X.w π (Hide N H) (.ref b) d ∧ d.nk = some k
def EntAt (X : Cx) (H : Hp) (xs : List (NestedKey × Addr × V)) : Prop := ∃ (π : Addr) (N : Addr → Bool) (kvs : List (D × D)), RvD X.K X.prog X.w π (Hide N H) xs kvs
theorem KeyAt.is (I : Inv X pins σ H s) {b : Addr} {k : NestedKey} (h : KeyAt X H b k) : (nestedKind X.prog X.w).is s.heap k b := let ⟨dp, _, _, _, r, e⟩ := h; ⟨Rv.nested I r e rfl, dp⟩
theorem dn_of (I : Inv X pins σ H s) {a : Addr} {xs : List (NestedKey × Addr × V)} (h : Rd H a (DN X.prog X.w a xs)) (en : EntAt X H xs) : (a == sysModules) = false ∧ xs.length ≤ sizeLine ∧ ∃ ys, PX xs ys ∧ s.heap.DictOfH (nestedKind X.prog X.w) a ys := by
  obtain ⟨π, N, kvs, rd⟩ := en
  have ok : ObjOk X.prog X.w H s.heap a (DN X.prog X.w a xs) := rd_of I.hok h
  obtain ⟨⟨h1, h2, h3, ys, pr, o, es, ep, ho, hc, hd, he⟩, _⟩ := ok
  exact ⟨h1, h2, ys, pr, o, es, ep, ho, hc, hd, he, RvD.keys I rd pr, by rw [← PX.keys pr]; exact h3⟩
theorem dn_ok {P : Program} {w : World} {H' : Hp} {h : Heap} {a : Addr} {xs : List (NestedKey × Addr × V)} {ys : List (NestedKey × Addr × Value)} (h1 : (a == sysModules) = false) (h2 : xs.length ≤ sizeLine) (pr : PX xs ys) (dd : h.DictOfH (nestedKind P w) a ys) : ObjOk P w H' h a (DN P w a xs) := by
  obtain ⟨o, es, ep, ho, hc, hd, he, _, hn⟩ := dd
  refine ⟨⟨h1, h2, by rw [PX.keys pr]; exact hn, ys, pr, o, es, ep, ho, hc, hd, he⟩, ⟨o, ho⟩, fun g1 g2 hg k => ?_⟩
  obtain ⟨x1, x2, x3, ys, pr, o, es, ep, ho, r⟩ := hg
  exact ⟨x1, x2, x3, ys, pr, o, es, ep, k _ ho, r⟩
/-- d[k] -/
theorem dn_getItem {A : Around} {E : Value → Shared → Prop} {a b : Addr} {xs : List (NestedKey × Addr × V)} {k : NestedKey} {v : V} {Q : Value → Shared → Prop} (hu : A.units + 64 < cLine) (I : Inv X pins σ H s) (h : Rd H a (DN X.prog X.w a xs)) (en : EntAt X H xs) (kk : KeyAt X H b k) (hv : valX xs k = some v)
    (hq : ∀ w' s', Inv X pins σ H s' → RelV v w' → Q w' s') : wpAny (model X.prog X.w) A (getItem (.ref a) (.ref b)) Q E s := by
  obtain ⟨h1, h2, ys, pr, dd⟩ := dn_of I h en
  obtain ⟨w', hw, rw'⟩ := RelO.some_of (v := v) (o := (atKey ys k).map (·.2)) (by rw [← hv]; exact pr.val)
  obtain ⟨p, hp, hp2⟩ := Option.map_eq_some_iff.mp hw
  refine wpAny_getItem_heap (knd := nestedKind X.prog X.w) (by show A.in1.units + 8 < cLine; rw [Around.in1_units]; omega) (kk.is I) dd hp ?_
  rw [hp2]
  exact hq w' _ (I.tok _) rw'
/-- d.get(k, x) -/
theorem dn_get2 {A : Around} {E : Value → Shared → Prop} {a b : Addr} {xs : List (NestedKey × Addr × V)} {k : NestedKey} {z : V} {r : Value} {Q : Value → Shared → Prop} (hu : A.units + 64 < cLine) (I : Inv X pins σ H s) (h : Rd H a (DN X.prog X.w a xs)) (en : EntAt X H xs) (kk : KeyAt X H b k) (rz : RelV z r)
    (hq : ∀ w' s', Inv X pins σ H s' → RelV ((valX xs k).getD z) w' → Q w' s') : wpAny (model X.prog X.w) A (call (.builtin "dict.get") [.ref a, .ref b, r]) Q E s := by
  obtain ⟨h1, h2, ys, pr, dd⟩ := dn_of I h en
  refine call_meetsIn PySem.F.slot_dict_get dd.typeIs PySem.F.entry_dict_get (PySem.F.args_dict_get_3 _ _ _) (meetsH_dict_get_default (nestedKind X.prog X.w) a b h1 r) ⟨by show A.in1.units + 8 < cLine; rw [Around.in1_units]; omega, k, ys, kk.is I, dd, hq _ _ (I.tok _) ?_⟩
  exact (pr.val (k := k)).getD rz
/-- d[k] = v -/
theorem dn_setItem {A : Around} {E : Value → Shared → Prop} {a b : Addr} {xs : List (NestedKey × Addr × V)} {k : NestedKey} {v : V} {r : Value} {Q : Unit → Shared → Prop} (hu : A.units + 64 < cLine) (I : Inv X pins σ H s) (h : H a = some (DN X.prog X.w a xs)) (en : EntAt X H xs) (kk : KeyAt X H b k) (hz : xs.length < sizeLine) (rv : RelV v r)
    (hq : ∀ s', Inv X pins σ (upd H a (DN X.prog X.w a (putX xs k b v))) s' → Q () s') : wpAny (model X.prog X.w) A (setItem (.ref a) (.ref b) r) Q E s := by
  obtain ⟨h1, h2, ys, pr, dd⟩ := dn_of I (.inl h) en
  have hl : ys.length = xs.length := (Paired.length pr).symm
  have hn : (ys.map (·.1)).Nodup := by obtain ⟨_, _, _, _, _, _, _, _, q⟩ := dd; exact q
  refine wpAny_setItem_heap (knd := nestedKind X.prog X.w) (hsz := by rw [hl]; exact h2) (by show A.in1.units + 8 < cLine; rw [Around.in1_units]; omega) (kk.is I) dd fun h' dd' hs => hq _ ?_
  have he : ∃ q, h'.get? a = some q := let ⟨q, _, _, e, _⟩ := dd'; ⟨q, e⟩
  rw [stored_rec hn] at dd'
  refine d_write I (by rw [h]; exact True.intro) hs he (dn_ok h1 ?_ (pr.put rv) dd')
  have := putX_len (k := k) (a := b) (v := v) (xs := xs)
  omega
end
end Pd

/-! Dicts with nested keys: the rules. -/
namespace Pd
open PySem L2

theorem dn_empty {P : Program} {w : World} {H : Hp} (h : Heap) (hb : sysModules < h.objs.size) : ObjOk P w H (h.push { cls := .type "dict", data := .dict #[] }) h.objs.size (DN P w h.objs.size []) :=
  dn_ok (beq_eq_false_iff_ne.mpr (Ne.symm (Nat.ne_of_lt hb))) (Nat.zero_le _) .nil (Heap.DictOfH.new h)
section
variable {X : Cx} {π : Addr} {N0 N : Addr → Bool} {H0 H : Hp} {pins : List (Addr × Obj)} {σ : L2.St} {ρ : Rho} {s : Shared} {pos : Pos} {a b ke ve e f : Expr} {m mk mv ma mb : Rho → T D}
theorem pe_dnewN : PE X (.Dict [] [] pos) (fun _ H Q => ∀ p, H p = none → Q (.ref p) (upd H p (DN X.prog X.w p []))) := ⟨fun pins s σ H Q I h =>
  wpAny_Dict_empty ⟨.ref s.heap.objs.size, _, I.laid (a := s.heap.objs.size) (o := DN X.prog X.w s.heap.objs.size []) (t' := s.toks) (fun _ _ q => Heap.get?_push_of_some _ q) (Nat.le_refl _) (dn_empty s.heap I.big), rfl, h _ (I.hok.fresh (Nat.le_refl _))⟩⟩
def sOwnD (i : Nat) : Rho → T Out := fun ρ => .ret (.nx (ρ.set i (.ownD [])))
theorem ss_ownD {i : Nat} {x : Str} {pos' pd : Pos} (hN : X.N.Nodup) (hi : X.N[i]? = some x := by rfl) (hx : Loc X.env.scope x := by first | exact .inl rfl | exact .inr rfl) (hs : swapsWith (.Dict [] [] pd) (some (.Name x pos')) pos.line X.env = pure false := by rfl) (hf : X.fn x = true ∨ X.env.scope.names.lookup x = some .local := by first | exact .inl rfl | exact .inr rfl) :
    SndS X (.Assign [.Name x pos'] (.Dict [] [] pd) pos) (sOwnD i) := fun {π N0 H0 N H σ ρ De} I h => ⟨_, ps_set hN hi hx pe_dnewN hs hf, fun p hp => by
  have e := Ex.new (o := DN X.prog X.w p []) I.hn.pot hp
  exact h _ _ _ (I.newAny e hp (by rw [upd_same]; exact fun z => by cases z) (.inr ⟨[], [], rfl, upd_same, .nil⟩))⟩

/-- a key's data -/
def keyD (d : D) : Option NestedKey := match d with
  | .tup ds => match D.nk (.tup ds) with
    | some k => cond (decide (k.depth ≤ 8)) (some k) none
    | none => none
  | _ => none
theorem keyD_of {d : D} {k : NestedKey} (h : keyD d = some k) : ∃ ds, d = .tup ds ∧ d.nk = some k ∧ k.depth ≤ 8 := by
  unfold keyD at h
  split at h
  · rename_i ds
    split at h
    · rename_i k' e
      cases c : decide (k'.depth ≤ 8) with
      | true => rw [c] at h; cases h; exact ⟨ds, rfl, e, of_decide_eq_true c⟩
      | false => rw [c] at h; cases h
    · cases h
  · cases h
def withKey {α : Type} (d : D) (f : NestedKey → T α) : T α := match keyD d with
  | some k => f k
  | none => .fail
theorem withKey_all {α : Type} {P : α → Prop} {d : D} {f : NestedKey → T α} (h : (withKey d f).all P) : ∃ ds k, d = .tup ds ∧ d.nk = some k ∧ k.depth ≤ 8 ∧ (f k).all P := by
  unfold withKey at h
  split at h
  · obtain ⟨ds, e, e2, dp⟩ := keyD_of (by assumption)
    exact ⟨ds, _, e, e2, dp, h⟩
  · exact False.elim h
def sPut (i : Nat) (mk mv : Rho → T D) : Rho → T Out := fun ρ => match ρ[i]? with
  | some (.ownD kvs) => (mv ρ).bind fun dv => (mk ρ).bind fun dk => withKey dk fun k => cond (decide (kvs.length ≤ 100000)) (.ret (.nx (ρ.set i (.ownD (dPut kvs k dk dv))))) .fail
  | _ => .fail
theorem ps_putN {i : Nat} {x : Str} {p pos' : Pos} (hu : X.A.units + 64 < cLine) (hN : X.N[i]? = some x) (hv : Vis X.env.scope x) (hd : (x == ("__debug__" : Str)) = false) (hcd : (x == ("__classdict__" : Str)) = false) (hs : swapsWith ve (some (.Subscript (.Name x p) ke pos')) pos.line X.env = pure false) :
    PS X (.Assign [.Subscript (.Name x p) ke pos'] ve pos) (fun De σ H => wpE X ve σ H fun v H1 => ∃ l, σ[i]? = some (some (.ref l)) ∧ wpE X ke σ H1 fun y H2 => ∃ b xs k, y = .ref b ∧ H2 l = some (DN X.prog X.w l xs) ∧ EntAt X H2 xs ∧ KeyAt X H2 b k ∧ xs.length < sizeLine ∧ De.nx σ (upd H2 l (DN X.prog X.w l (putX xs k b v)))) := by
  refine ⟨fun pins s σ H D I h => ?_⟩
  refine wpAny_Assign_Subscript (thn (pe_wp.run pins s σ H _ I h) fun r s1 ⟨v, H1, I1, rv, l, hl, q1⟩ => thn ((pe_var hN hv hd hcd).run pins s1 σ H1 (fun x H2 => x = .ref l ∧ H2 = H1) I1 ⟨_, hl, rfl, rfl⟩) fun u s2 ⟨x, H2, I2, rx, ex, eH⟩ => ?_) hs
  subst ex eH
  refine thn (pe_wp.run pins s2 σ H2 _ I2 q1) fun iv s3 ⟨y, H3, I3, ry, b, xs, k, ey, hd, en, kk, hz, q3⟩ => ?_
  subst ey
  obtain rfl : u = Value.ref l := rx
  obtain rfl : iv = Value.ref b := ry
  exact dn_setItem hu I3 hd en kk hz rv fun s4 I4 => ⟨σ, _, I4, q3⟩
theorem ss_put (i : Nat) {x : Str} {p pos' : Pos} (hu : X.A.units + 64 < cLine) (hve : Snd X ve mv) (hke : Snd X ke mk) (hN : X.N[i]? = some x := by rfl) (hv : Vis X.env.scope x := by first | exact Or.inl rfl | exact Or.inr (Or.inl rfl) | exact Or.inr (Or.inr rfl)) (hd : (x == ("__debug__" : Str)) = false := by decide)
    (hcd : (x == ("__classdict__" : Str)) = false := by decide) (hs : swapsWith ve (some (.Subscript (.Name x p) ke pos')) pos.line X.env = pure false := by rfl) : SndS X (.Assign [.Subscript (.Name x p) ke pos'] ve pos) (sPut i mk mv) := fun {π N0 H0 N H σ ρ De} I h => ⟨_, ps_putN hu hN hv hd hcd hs, by
  unfold sPut at h
  split at h
  · rename_i kvs c
    refine hve I (T.all_mono (fun dv hdv => ?_) (T.all_bind.mp h))
    intro v H1 e1 r1
    have I1 := I.ext e1
    obtain ⟨l, xs, hs1, nl, n0, hl, rl⟩ := I1.dic i kvs c
    refine ⟨l, hs1, hke I1 (T.all_mono (fun dk hdk => ?_) (T.all_bind.mp hdv))⟩
    intro y H2 e2 r2
    obtain ⟨ds, k, rfl, e, dp, hdk⟩ := withKey_all hdk
    obtain ⟨hsm, hdk⟩ := cond_all hdk
    obtain ⟨b, vs, rfl, hb, rb⟩ := id r2.tupE
    have hl2 := e2.kp l _ (N_ne I1.hn nl) hl
    have rl2 := rl.mono e2.kp.hide
    refine ⟨b, xs, k, rfl, hl2, ⟨_, _, _, rl2⟩, ⟨dp, _, _, _, r2, e⟩, ?_, ?_⟩
    · rw [rl.length]
      exact Nat.lt_of_le_of_lt (of_decide_eq_true hsm) (by decide)
    · exact hdk _ _ _ ((I1.ext e2).upAny c rfl hs1 nl n0 (.inr ⟨_, _, rfl, rfl, RvD.put e dp r2 (r1.mono e2.kp.hide) rl2⟩))
  · exact False.elim h⟩
/-! d.get(k, x) of an own dict -/
def getOwn (i : Nat) (mk mx : Rho → T D) : Rho → T D := fun ρ => match ρ[i]? with
  | some (.ownD kvs) => (mk ρ).bind fun dk => (mx ρ).bind fun dx => withKey dk fun k => .ret ((dAt kvs k).getD dx)
  | _ => .fail
theorem dn_noDict {H : Hp} {a : Addr} {xs : List (NestedKey × Addr × V)} (I : Inv X pins σ H s) (h : Rd H a (DN X.prog X.w a xs)) (en : EntAt X H xs) : s.TypeIs (.ref a) "dict" ∧ ∀ b, Value.ref a = .ref b → ∃ ob, s.heap.get? b = some ob ∧ ob.dict = none := by
  obtain ⟨_, _, ys, _, dd⟩ := dn_of I h en
  refine ⟨dd.typeIs, fun b q => ?_⟩
  cases q
  obtain ⟨o, es, ep, ho, hc, _⟩ := dd
  exact ⟨o, ho, hc.2.1⟩
theorem pe_getN {i : Nat} {x : Str} {p apos cpos : Pos} (hu : X.A.units + 64 < cLine) (hN : X.N[i]? = some x) (hv : Vis X.env.scope x) (hd : (x == ("__debug__" : Str)) = false) (hcd : (x == ("__classdict__" : Str)) = false) (m : M2 X (.Name x p) "get" apos e f cpos) :
    PE X (.Call (.Attribute (.Name x p) "get" apos) [e, f] [] cpos) (fun σ H Q => ∃ l xs, σ[i]? = some (some (.ref l)) ∧ Rd H l (DN X.prog X.w l xs) ∧ EntAt X H xs ∧ wpE X e σ H fun y H2 => wpE X f σ H2 fun z H3 => ∃ b k, y = .ref b ∧ Rd H3 l (DN X.prog X.w l xs) ∧ EntAt X H3 xs ∧ KeyAt X H3 b k ∧ Q ((valX xs k).getD z) H3) := by
  refine ⟨fun pins s σ H Q I h => ?_⟩
  obtain ⟨l, xs, hl, h1, en, q1⟩ := h
  refine wpAny_Call_method m.base m.few m.line PySem.F.plainAttrs_dict PySem.F.slot_dict_get PySem.F.type_dict_get (thn ((pe_var hN hv hd hcd).run pins s σ H (fun x H2 => x = .ref l ∧ H2 = H) I ⟨_, hl, rfl, rfl⟩) fun u s1 ⟨x, H1, I1, rx, ex, eH⟩ => ?_)
  subst ex eH
  obtain rfl : u = Value.ref l := rx
  obtain ⟨t1, t2⟩ := dn_noDict I1 h1 en
  refine ⟨t1, t2, ?_⟩
  rw [m.trees]
  refine Calls.callWith_builtin rfl (Calls.evalArgs_plain (Calls.spliced_cons (thn (pe_wp.run pins s1 σ H1 _ I1 q1) fun iv s2 ⟨y, H2, I2, ry, q2⟩ =>
    Calls.spliced_cons (thn (pe_wp.run pins s2 σ H2 _ I2 q2) fun fv s3 ⟨z, H3, I3, rz, b, k, ey, h3, en3, kk, q3⟩ => Calls.spliced_nil ?_))))
  subst ey
  obtain rfl : iv = Value.ref b := ry
  exact dn_get2 hu I3 h3 en3 kk rz fun w' s4 I4 rw' => ⟨_, H3, I4, rw', q3⟩
theorem s_getOwn (i : Nat) {x : Str} {p apos cpos : Pos} (hu : X.A.units + 64 < cLine) (hke : Snd X e mk) (hxe : Snd X f mv) (hN : X.N[i]? = some x := by rfl) (hv : Vis X.env.scope x := by first | exact Or.inl rfl | exact Or.inr (Or.inl rfl) | exact Or.inr (Or.inr rfl)) (hd : (x == ("__debug__" : Str)) = false := by decide)
    (hcd : (x == ("__classdict__" : Str)) = false := by decide) (m : M2 X (.Name x p) "get" apos e f cpos := by exact ⟨rfl, rfl, rfl, rfl⟩) : Snd X (.Call (.Attribute (.Name x p) "get" apos) [e, f] [] cpos) (getOwn i mk mv) := fun {π N0 H0 N H σ ρ Q} I h => ⟨_, pe_getN hu hN hv hd hcd m, by
  unfold getOwn at h
  split at h
  · rename_i kvs c
    obtain ⟨l, xs, hs1, nl, n0, hl, rl⟩ := I.dic i kvs c
    refine ⟨l, xs, hs1, .inl hl, ⟨_, _, _, rl⟩, hke I (T.all_mono (fun dk hdk => ?_) (T.all_bind.mp h))⟩
    intro y H1 e1 r1
    refine hxe (I.ext e1) (T.all_mono (fun dx hdx => ?_) (T.all_bind.mp hdk))
    intro z H2 e2 r2
    obtain ⟨ds, k, rfl, ek, dp, hdx⟩ := withKey_all hdx
    obtain ⟨b, vs, rfl, hb, rb⟩ := id r1.tupE
    have e12 := e1.trans e2
    have rl2 := rl.mono e12.kp.hide
    refine ⟨b, k, rfl, .inl (e12.kp l _ (N_ne I.hn nl) hl), ⟨_, _, _, rl2⟩, ⟨dp, _, _, _, r1.mono e2.kp.hide, ek⟩, ?_⟩
    have hv := RvD.val (k := k) rl2
    cases q : dAt kvs k with
    | none =>
      rw [q] at hv hdx
      have hv : valX xs k = none := hv
      rw [hv]
      exact hdx z H2 e12 r2
    | some d =>
      rw [q] at hv hdx
      obtain ⟨v, hv, rv⟩ := (show ∃ v, valX xs k = some v ∧ Rv X.K X.prog X.w π (Hide N H2) v d from hv)
      rw [hv]
      exact hdx v H2 e12 rv
  · exact False.elim h⟩
/-! d[k] of a dict that is a value -/
def dGet : D → D → T D := fun d dk => match d with
  | .dic kvs => withKey dk fun k => match dAt kvs k with
    | some d => .ret d
    | none => .fail
  | _ => .fail
theorem pe_dgetN (hu : X.A.units + 64 < cLine) (hs : NoSl b) : PE X (.Subscript a b pos) (fun σ H Q => wpE X a σ H fun x H1 => wpE X b σ H1 fun y H2 => ∃ l xs c k v, x = .ref l ∧ y = .ref c ∧ Rd H2 l (DN X.prog X.w l xs) ∧ EntAt X H2 xs ∧ KeyAt X H2 c k ∧ valX xs k = some v ∧ Q v H2) := by
  refine ⟨fun pins s σ H Q I h => ?_⟩
  refine subD_of PySem.F.slot_dict_getitem.lookup hs (thn (pe_wp.run pins s σ H _ I h) fun u s1 ⟨x, H1, I1, rx, q1⟩ => thn (pe_wp.run pins s1 σ H1 _ I1 q1) fun iv s2 ⟨y, H2, I2, ry, l, xs, c, k, v, ex, ey, hr, en, kk, hv, q2⟩ => ?_)
  subst ex ey
  obtain rfl : u = Value.ref l := rx
  obtain rfl : iv = Value.ref c := ry
  exact ⟨(dn_noDict I2 hr en).1, dn_getItem hu I2 hr en kk hv fun w' s3 I3 rw' => ⟨v, H2, I3, rw', q2⟩⟩
theorem Rv.dicE {K : PySem.W.Frag} {P : Program} {w : World} {π : Addr} {N : Addr → Bool} {H : Hp} {v : V} {kvs : List (D × D)} (r : Rv K P w π (Hide N H) v (.dic kvs)) : ∃ a od xs, v = .ref a ∧ H a = some (.frz od (DN P w a xs)) ∧ N a = false ∧ a ≠ π ∧ RvD K P w π (Hide N H) xs kvs := by
  cases r with
  | dic h n r => exact ⟨_, _, _, rfl, (hide_some h).2, (hide_some h).1, n, r⟩
theorem s_dGet (hu : X.A.units + 64 < cLine) (ha : Snd X a ma) (hb : Snd X b mb) (hs : NoSl b) : Snd X (.Subscript a b pos) (eBin dGet ma mb) := fun {π N0 H0 N H σ ρ Q} I h => ⟨_, pe_dgetN hu hs, by
  refine ha I (T.all_mono (fun dx hx => ?_) (T.all_bind.mp h))
  intro v H1 e1 r1
  refine hb (I.ext e1) (T.all_mono (fun dy hy => ?_) (T.all_bind.mp hx))
  intro u H2 e2 r2
  unfold dGet at hy
  split at hy
  · rename_i kvs
    obtain ⟨ds, k, rfl, ek, dp, hy⟩ := withKey_all hy
    obtain ⟨l, od, xs, rfl, hl, _, _, rl⟩ := (r1.mono e2.kp.hide).dicE
    obtain ⟨c, vs, rfl, hb, rb⟩ := id r2.tupE
    have hv := RvD.val (k := k) rl
    cases q : dAt kvs k with
    | none => rw [q] at hy; exact False.elim hy
    | some d =>
      rw [q] at hv hy
      obtain ⟨v, hv, rv⟩ := (show ∃ v, valX xs k = some v ∧ Rv X.K X.prog X.w π (Hide N H2) v d from hv)
      exact ⟨l, xs, c, k, v, rfl, rfl, .inr ⟨_, hl⟩, ⟨_, _, _, rl⟩, ⟨dp, _, _, _, r2, ek⟩, hv, hy v H2 (e1.trans e2) rv⟩
  · exact False.elim hy⟩
/-! {k: v} -/
def eDict1 (mk mv : Rho → T D) : Rho → T D := fun ρ => (mk ρ).bind fun dk => (mv ρ).bind fun dv => withKey dk fun _ => .ret (.dic [(dk, dv)])
theorem pe_dict1 (hu : X.A.units + 64 < cLine) : PE X (.Dict [some ke] [ve] pos) (fun σ H Q => ∀ p, H p = none → wpE X ke σ (upd H p (DN X.prog X.w p [])) fun y H1 => wpE X ve σ H1 fun v H2 => ∃ b k, y = .ref b ∧ KeyAt X H2 b k ∧ H2 p = some (DN X.prog X.w p []) ∧ ∀ od, Q (.ref p) (upd H2 p (.frz od (DN X.prog X.w p [(k, b, v)])))) := by
  refine ⟨fun pins s σ H Q I h => ?_⟩
  have hn := I.hok.fresh (Nat.le_refl s.heap.objs.size)
  have I1 := I.laid (a := s.heap.objs.size) (o := DN X.prog X.w s.heap.objs.size []) (h' := s.heap.push { cls := .type "dict", data := .dict #[] }) (t' := s.toks) (fun _ _ q => Heap.get?_push_of_some _ q) (Nat.le_refl _) (dn_empty s.heap I.big)
  have hshape : (evalEachOpt [some ke] X.env).zip ((evalEach [ve] X.env).map fun v => do let x ← v; standAt pos; pure x) = ([(eval ke X.env, do let x ← eval ve X.env; standAt pos; pure x)] : List (Sem Value × Sem Value)).map fun p => (some p.1, p.2) := rfl
  rw [arm_eval_Dict, hshape, dictDisplay_pairs [(eval ke X.env, do let x ← eval ve X.env; standAt pos; pure x)] (by simp) (by simp)]
  refine wpAny_bind (wpAny_standAt (wpAny_bind (wpAny_subDictH (knd := nestedKind X.prog X.w) (by show X.A.units + 8 < cLine; omega) (by simp)
    (evalPairs_cons (thn (pe_wp.run pins _ σ _ _ I1 (h _ hn)) fun u s1 ⟨y, H1, I1, ry, q1⟩ => wpAny_bind (thn (pe_wp.run pins s1 σ H1 _ I1 q1) fun w2 s2 ⟨v, H2, I2, rv, b, k, ey, kk, hp, q⟩ => wpAny_bind (wpAny_standAt (wpAny_pure (evalPairs_nil ?_)))))))))
  subst ey
  obtain rfl : u = Value.ref b := ry
  obtain ⟨h1, _, ys, pr, dd⟩ := dn_of I2 (.inl hp) ⟨s.heap.objs.size, fun _ => false, [], .nil⟩
  cases pr
  refine ⟨[(k, b, w2)], ⟨rfl, rfl, kk.is I2, True.intro⟩, dd, fun h' tk dz sb => wpAny_pure ?_⟩
  have I3 : Inv X pins σ (upd H2 s.heap.objs.size (DN X.prog X.w s.heap.objs.size [(k, b, v)])) { s2 with heap := h', toks := tk } := by
    have he : ∃ q, h'.get? s.heap.objs.size = some q := let ⟨q, _, _, e, _⟩ := dz; ⟨q, e⟩
    exact d_write I2 (by rw [hp]; exact True.intro) sb he (dn_ok h1 (show 1 ≤ sizeLine by decide) (.cons ⟨rfl, rfl, rv⟩ .nil) dz)
  obtain ⟨od, I4⟩ := I3.lock upd_same True.intro
  rw [upd_upd] at I4
  exact ⟨.ref s.heap.objs.size, _, I4, rfl, q od⟩
theorem EnvOk.hideNewD {l : Addr} (I : EnvOk X.K X.prog X.w π N0 H0 N H σ ρ) (hl : H l = none) : EnvOk X.K X.prog X.w π N0 H0 (plus N l) (upd H l (DN X.prog X.w l [])) σ ρ := by
  have J := I.newAny (i := σ.length) (x := .ownD []) (Ex.new (o := DN X.prog X.w l []) I.hn.pot hl) hl (by rw [upd_same]; exact fun z => by cases z) (.inr ⟨[], [], rfl, upd_same, .nil⟩)
  rw [List.set_eq_of_length_le (Nat.le_refl _), List.set_eq_of_length_le (by rw [I.len]; exact Nat.le_refl _)] at J
  exact J
theorem s_dict1 (hu : X.A.units + 64 < cLine) (hk : Snd X ke mk) (hv : Snd X ve mv) : Snd X (.Dict [some ke] [ve] pos) (eDict1 mk mv) := fun {π N0 H0 N H σ ρ Q} I h => ⟨_, pe_dict1 hu, fun p hp => by
  have Np := I.hn.new hp
  have ppi := I.hn.pot.ne hp
  have I1 := I.hideNewD hp
  refine hk I1 (T.all_mono (fun dk hdk => ?_) (T.all_bind.mp h))
  intro y H1 e1 r1
  refine hv (I1.ext e1) (T.all_mono (fun dv hdv => ?_) (T.all_bind.mp hdk))
  intro v H2 e2 r2
  obtain ⟨ds, k, rfl, ek, dp, hdv⟩ := withKey_all hdv
  have r1 := r1.mono e2.kp.hide
  obtain ⟨b, vs, rfl, hb, rb⟩ := id r1.tupE
  have e12 := e1.trans e2
  have h2 : H2 p = some (DN X.prog X.w p []) := e12.kp p _ ppi upd_same
  refine ⟨b, k, rfl, ⟨dp, _, _, _, r1, ek⟩, h2, fun od => ?_⟩
  have kp : Kp π (Hide (plus N p) H2) (Hide N (upd H2 p (.frz od (DN X.prog X.w p [(k, b, v)])))) := fun a o n q => by
    obtain ⟨na, ha⟩ := hide_some q
    have ne : a ≠ p := fun z => by rw [z, plus_self] at na; cases na
    have na' : N a = false := by
      cases c : N a with
      | false => rfl
      | true => rw [plus_old c] at na; cases na
    rw [hide_in na', upd_ne ne]
    exact ha
  refine hdv _ _ ⟨fun a o n q => ?_, ?_⟩ (.dic (od := od) (xs := [(k, b, v)]) (by rw [hide_in Np, upd_same]) ppi (.cons ek dp (r1.mono kp) (r2.mono kp) .nil))
  · have ne : a ≠ p := fun z => by rw [z, hp] at q; cases q
    rw [upd_ne ne]
    exact e12.kp a o n (by rw [upd_ne ne]; exact q)
  · obtain ⟨x, y, q, r⟩ := e12.pot
    exact ⟨x, y, by rw [upd_ne ppi.symm]; exact q, r⟩⟩
end
end Pd

/-! Loops over d.items() and enumerate(tuple). -/
namespace Pd
open PySem L2 PySem.Spec PyProof.Rows

/-- the entries of a locked dict, each in a new pair -/
def Itn (P : Program) (w : World) (d : Addr) (o : Obj) (xs : List (NestedKey × Addr × V)) : It :=
  ⟨fun i H => H d = some (.frz o (DN P w d xs)) ∧ i < xs.length, fun i H v H' => ∃ T x, xs[i]? = some x ∧ v = .ref T ∧ H T = none ∧ H' = upd H T (.tup [.ref x.2.1, x.2.2]), fun i H => H d = some (.frz o (DN P w d xs)) ∧ i = xs.length⟩
theorem PX.get {xs : List (NestedKey × Addr × V)} {ys : List (NestedKey × Addr × Value)} (r : PX xs ys) : ∀ {i : Nat} {x : NestedKey × Addr × V}, xs[i]? = some x → ∃ y, ys[i]? = some y ∧ x.1 = y.1 ∧ x.2.1 = y.2.1 ∧ RelV x.2.2 y.2.2 := by
  induction r with
  | nil => intro i x e; simp at e
  | @cons p q ps qs h t ih =>
    intro i x e
    cases i with
    | zero => simp at e; subst e; exact ⟨q, rfl, h⟩
    | succ i => exact ih (i := i) (by simpa using e)
section
variable {X : Cx} {pins : List (Addr × Obj)} {σ : L2.St} {H : Hp} {s : Shared} {P : Program} {w : World} {K : PySem.W.Frag}
theorem frz_at {d : Addr} {o : Obj} {xs : List (NestedKey × Addr × V)} {es : Array DictEntry} {ep : Nat} (I : Inv X pins σ H s) (h : H d = some (.frz o (DN X.prog X.w d xs))) (hod : o.data = .dict es ep) :
    s.heap.DictRaw d es ep ∧ es.size = xs.length ∧ ∀ (i : Nat) (x : NestedKey × Addr × V), xs[i]? = some x → ∃ (hi : i < es.size), es[i].key = .ref x.2.1 ∧ RelV x.2.2 es[i].val := by
  obtain ⟨ho, ⟨h1, h2, h3, ys, pr, o', es', ep', ho', hc, hd, he⟩, _⟩ := (show ObjOk X.prog X.w H s.heap d (.frz o (DN X.prog X.w d xs)) from I.hok d _ h)
  rw [ho] at ho'
  cases ho'
  rw [hod] at hd
  cases hd
  have hs : es.size = ys.length := size_of_entries he
  have hl : xs.length = ys.length := Paired.length pr
  refine ⟨⟨o, ho, hc, hod⟩, by omega, fun i x hx => ?_⟩
  obtain ⟨y, hy, r1, r2, r3⟩ := PX.get pr hx
  have hi : i < es.size := by
    have := (List.getElem?_eq_some_iff.mp hy).1
    omega
  have e := entry_at he i
  rw [Array.getElem?_eq_getElem hi, hy, Option.map_some] at e
  have e' : es[i] = entryOfKey (nestedKind X.prog X.w) y := Option.some.inj e
  refine ⟨hi, ?_, ?_⟩
  · rw [e', r2]; rfl
  · rw [e']; exact r3
theorem turn_itemsN {d : Addr} {o : Obj} {xs : List (NestedKey × Addr × V)} {es : Array DictEntry} {ep : Nat} {elts : List Expr} {kk : Nat} {tpos : Pos} (it : Addr) (hod : o.data = .dict es ep) :
    Turn P w K (.Tuple elts kk tpos) (Itn P w d o xs) [it] it (fun i h => ∃ ok ov, IsItemIter h it d i es.size ep ok ov) where
  mem := by simp
  obj := fun i h st b hb => by
    have e : b = it := by simpa using hb
    subst e
    obtain ⟨ok, ov, e⟩ := st
    exact ⟨_, e, fun v z => nomatch z⟩
  keep := fun i h h' st k => let ⟨ok, ov, e⟩ := st; ⟨ok, ov, k it (by simp) _ e⟩
  item := by
    intro X hP hw hK hc i pins s σ H E I hf st hg
    subst hP hw hK
    obtain ⟨hd, hi⟩ := hg
    obtain ⟨raw, hsz, ent⟩ := frz_at I hd hod
    obtain ⟨x, hx⟩ : ∃ x, xs[i]? = some x := ⟨xs[i], List.getElem?_eq_getElem hi⟩
    obtain ⟨hlt, ek, ev⟩ := ent i x hx
    obtain ⟨ok, ov, he⟩ := st
    have hil : it < s.heap.objs.size := Heap.lt_size he
    refine wpAny_pyNext_items_item_raw he raw hlt fun h' ho hT hz hk => ?_
    refine ⟨_, rfl, wpAny_letOwnedTupleGo_items (s := { s with heap := h' }) ho fun h'' he' sb => ?_⟩
    have hT2 : h''.get? s.heap.objs.size = some { cls := .type "tuple", data := .seq #[es[i].key, es[i].val] } := (sb.2 _ (Nat.ne_of_gt hil)).trans hT
    have new : ObjOk X.prog X.w (upd H s.heap.objs.size (.tup [.ref x.2.1, x.2.2])) h'' s.heap.objs.size (.tup [.ref x.2.1, x.2.2]) :=
      ⟨by show 2 ≤ sizeLine; decide, [es[i].key, es[i].val], .cons (show RelV (V.ref x.2.1) es[i].key by rw [ek]; rfl) (.cons ev .nil), ⟨_, hT2, rfl, _, rfl⟩⟩
    have I1 : Inv X pins σ (upd H s.heap.objs.size (.tup [.ref x.2.1, x.2.2])) { s with heap := h'' } :=
      I.turnedNew (t' := s.toks) (ch := [it]) (fun b ob hb e => (sb.2 b (by simpa using hb)).trans (hk b ob (by simpa using hb) e)) hf (Nat.le_refl _) new
    refine ⟨.ref s.heap.objs.size, _, I1, rfl, ⟨_, x, hx, rfl, I.hok.fresh (Nat.le_refl _), rfl⟩, ⟨_, _, he'⟩, fun b hb => ?_⟩
    have e : b = it := by simpa using hb
    rw [e, upd_ne (Nat.ne_of_lt hil)]
    exact (hf it (by simp)).1
  done := by
    intro X hP hw hK hc i pins s σ H E I hf st hg
    subst hP hw hK
    obtain ⟨hd, hi⟩ := hg
    obtain ⟨f0, f1, f2, f3, f4, f5⟩ := hf it (by simp)
    obtain ⟨raw, hsz, ent⟩ := frz_at I hd hod
    obtain ⟨ok, ov, he⟩ := st
    exact wpAny_pyNext_items_end_raw (I.ok.hd hc) he raw (by omega) fun h' eb => ⟨rfl, I.turned (t' := s.toks) (fun b ob hb e => eb b ob hb e) f0 f1 f3 f4 f5⟩
  self := fun A i s Q E st h => let ⟨_, _, e⟩ := st; PySem.wpAny_pyIter_itemiter e h
end
section
variable {X : Cx} {e : Expr} {apos cpos tpos : Pos} {elts : List Expr} {kk : Nat} {m : Rho → T D} {ms : Rho → T (List D)}
theorem pi_itemsN (hbase : attributeBase e "items" X.env (eval e X.env) = eval e X.env) (hline : (apos.endLine == cpos.line) = true) :
    PI X (.Tuple elts kk tpos) (.Call (.Attribute e "items" apos) [] [] cpos) (fun σ H R => wpE X e σ H fun x H1 => ∃ d o xs, x = .ref d ∧ H1 d = some (.frz o (DN X.prog X.w d xs)) ∧ R (Itn X.prog X.w d o xs) H1) := by
  refine ⟨fun pins s σ H R I h => ?_⟩
  refine wpAny_Call_method (T := "dict") (id := "dict.items") hbase rfl hline F.plainAttrs_dict F.slot_dict_items F.type_dict_items (thn (pe_wp.run pins s σ H _ I h) fun u s1 ⟨x, H1, I1, rx, d, o, xs, ex, hd, q⟩ => ?_)
  subst ex
  obtain rfl : u = Value.ref d := rx
  obtain ⟨ho, ⟨h1, h2, h3, ys, pr, o', es, ep, ho', hc, hdt, he⟩, _⟩ := (show ObjOk X.prog X.w H1 s1.heap d (.frz o (DN X.prog X.w d xs)) from I1.hok d _ hd)
  have eo : o' = o := Option.some.inj (ho'.symm.trans ho)
  subst eo
  have raw : s1.heap.DictRaw d es ep := ⟨_, ho, hc, hdt⟩
  refine ⟨raw.typeIs, fun b q => ?_, ?_⟩
  · cases q
    exact ⟨_, ho, hc.2.1⟩
  have I2 : Inv X pins σ H1 { s1 with heap := s1.heap.push { cls := .type "dict_items", data := .fields #[.ref d] } } := I1.kept (t' := s1.toks) fun b ob q => Heap.get?_push_of_some _ q
  have fin : wpAny (model X.prog X.w) X.A (pyIter (.ref s1.heap.objs.size)) (PIE X pins σ (.Tuple elts kk tpos) R) X.xe { s1 with heap := s1.heap.push { cls := .type "dict_items", data := .fields #[.ref d] } } :=
    wpAny_pyIter_items_raw (d := d) ⟨_, Heap.get?_push_size _ rfl, rfl, rfl⟩ (raw.at fun o q => Heap.get?_push_of_some _ q) (pi_one (tk := s1.toks) I2 _ (turn_itemsN _ hdt) ⟨.none, .none, Heap.get?_push_size _ rfl⟩ q)
  show wpAny _ _ (callWith cpos (.builtin "dict.items") [.ref d] [] []) _ X.xe s1
  exact method_meetsIn F.slot_dict_items F.entry_dict_items rfl (PySem.evalArgs_none ⟨rfl, raw.typeIs, F.args_dict_items_1 _, _, meets_dict_items_raw d h1, ⟨es, ep, raw⟩, fin⟩)
def iItems (m : Rho → T D) : Rho → T (List D) := fun ρ => (m ρ).bind fun d => match d with
  | .dic kvs => .ret (kvs.map fun p => .tup [p.1, p.2])
  | _ => .fail
theorem si_items (ha : Snd X e m) (hbase : attributeBase e "items" X.env (eval e X.env) = eval e X.env := by rfl) (hline : (apos.endLine == cpos.line) = true := by rfl) : SndI X (.Tuple elts kk tpos) (.Call (.Attribute e "items" apos) [] [] cpos) (iItems m) := fun {π N0 H0 N H σ ρ R} I h =>
  ⟨_, pi_itemsN hbase hline, ha I (T.all_mono (fun d hd => by
    intro v H2 e2 r
    cases d with
    | dic kvs =>
      obtain ⟨l, od, xs, rfl, hl, nl, ne, rl⟩ := r.dicE
      refine ⟨l, od, xs, rfl, hl, hd _ _ e2 fun N' H' i hn k => ?_⟩
      have hv : Hide N H2 l = some (.frz od (DN X.prog X.w l xs)) := by rw [hide_in nl]; exact hl
      have h' := k l _ ne hv
      obtain ⟨n', hl'⟩ := hide_some h'
      have hlen := rl.length
      refine ⟨fun d hd => ?_, fun e => ⟨hl', by rw [hlen, e, List.length_map]⟩⟩
      rw [List.getElem?_map] at hd
      cases q : kvs[i]? with
      | none => rw [q] at hd; cases hd
      | some p =>
        rw [q] at hd
        cases hd
        obtain ⟨kx, a, v, hx, r1, r2⟩ := (rl.mono k).get q
        refine ⟨⟨hl', (List.getElem?_eq_some_iff.mp hx).1⟩, fun x H3 y => ?_⟩
        obtain ⟨T, x', hx', rfl, hT, rfl⟩ := y
        rw [hx] at hx'
        cases hx'
        have en := Ex.new (o := .tup [V.ref a, v]) hn.pot hT
        exact ⟨en, .tup (hide_new (hn.new hT)) (hn.pot.ne hT) (.cons (r1.mono en.kp.hide) (.cons (r2.mono en.kp.hide) .nil))⟩
    | _ => exact False.elim hd) (T.all_bind.mp h))⟩
end

/-! ### enumerate(tuple) -/
set_option maxHeartbeats 1000000 in
theorem meets_enum1 {v : Value} {o : Obj} {H : Heap → Prop} (B : Begins v o H) :
    Meets (Builtin.«enumerate.__new__» ⟨[.type "enumerate", v], []⟩) (fun _ R s => H s.heap ∧
      R (.ok (.ret (.ref (s.heap.push o).objs.size))) { s with heap := (s.heap.push o).push { cls := .type "enumerate", data := .fields #[.none, .bool false, .ref s.heap.objs.size, rawInt 0, .none, .none] } }) :=
  .of_wp fun prog w A R s h => by
    obtain ⟨hp, g, d, tk, os⟩ := s; obtain ⟨h1, h⟩ := h
    have hsub := sub_enumerate
    have q1 : ∀ {A' : Around} {E : Value → Shared → Prop} {Q : Value → Shared → Prop}, Q (.ref hp.objs.size) ⟨hp.push o, g, d, tk, os⟩ → wpAny (model prog w) A' (pyIter v) Q E ⟨hp, g, d, tk, os⟩ :=
      fun q => B.iter prog w _ _ ⟨hp, g, d, tk, os⟩ _ h1 q
    wp_walk using q1
    refine wpAny_stack_any fun st => wpAny_pure ?_
    split
    · rename_i c _ _ _ _ _
      cases (c == Value.type "enumerate")
      · wp_walk using q1
        exact ⟨_, rfl, h⟩
      · wp_walk using q1
        exact ⟨_, rfl, h⟩
    · wp_walk using q1
      exact ⟨_, rfl, h⟩
theorem enum_begins1 {prog : Program} {w : World} {A : Around} {E : Value → Shared → Prop} {s : Shared} {v : Value} {o : Obj} {H : Heap → Prop} {Q : Value → Shared → Prop} (B : Begins v o H) (h1 : H s.heap)
    (h : ∀ h', IsEnum h' (s.heap.objs.size + 1) s.heap.objs.size 0 .none → h'.get? s.heap.objs.size = some o → h'.objs.size = s.heap.objs.size + 2 →
      (∀ b o, s.heap.get? b = some o → h'.get? b = some o) → Q (.ref (s.heap.objs.size + 1)) { s with heap := h' }) :
    wpAny (model prog w) A (call (.type "enumerate") [v]) Q E s := by
  refine callType_new F.called_enumerate (by decide) (F.typeCall_enumerate_1 _) (F.newCall_enumerate_1 _) (fun obj => F.args_object_init_2 obj _) F.entry_enumerate_new (meets_enum1 B) ⟨h1, ?_⟩
  have hz : (s.heap.push o).objs.size = s.heap.objs.size + 1 := Heap.size_push ..
  show _ ∧ _
  rw [hz]
  have he : IsEnum ((s.heap.push o).push { cls := .type "enumerate", data := .fields #[.none, .bool false, .ref s.heap.objs.size, rawInt 0, .none, .none] }) (s.heap.objs.size + 1) s.heap.objs.size 0 .none := by
    have := Heap.get?_push_size (s.heap.push o) (o := { cls := .type "enumerate", data := .fields #[.none, .bool false, .ref s.heap.objs.size, rawInt 0, .none, .none] }) rfl
    rw [hz] at this; exact this
  refine ⟨⟨_, he, rfl⟩, h _ he (Heap.get?_push_of_some _ (Heap.get?_push_size _ B.free)) (by rw [Heap.size_push, hz]) fun b o x => Heap.get?_push_of_some _ (Heap.get?_push_of_some _ x)⟩
def Iten (K : PySem.W.Frag) (a : Addr) : It :=
  ⟨fun i H => ∃ (xs : List V) (x : V), SqT K H a xs ∧ xs[i]? = some x, fun i H v H' => ∃ T x, v = .ref T ∧ H T = none ∧ H' = upd H T (.tup [.int (i : Nat), x]) ∧ ∀ xs, SqT K H a xs → xs[i]? = some x, fun i H => ∃ xs : List V, SqT K H a xs ∧ xs.length = i⟩
theorem turn_enumT {P : Program} {w : World} {K : PySem.W.Frag} {elts : List Expr} {kk : Nat} {tpos : Pos} (a e it : Addr) :
    Turn P w K (.Tuple elts kk tpos) (Iten K a) [e, it] e (fun i h => (∃ old, IsEnum h e it ((i : Nat) : Int) old) ∧ h.IsTupleIter it a i ∧ e ≠ it ∧ a ≠ it ∧ a ≠ e) where
  mem := by simp
  obj := fun i h st b hb => by
    obtain ⟨⟨old, he⟩, ⟨o, ho, hc, hd⟩, _⟩ := st
    have e' : b = e ∨ b = it := by simpa using hb
    rcases e' with z | z
    · rw [z]; exact ⟨_, he, fun v q => nomatch q⟩
    · rw [z]; exact ⟨o, ho, fun v q => by rw [hd] at q; cases q⟩
  keep := fun i h h' st k => let ⟨⟨old, he⟩, hi, hne⟩ := st; ⟨⟨old, k e (by simp) _ he⟩, hi.at fun o q => k it (by simp) o q, hne⟩
  item := by
    intro X hP hw hK hc i pins s σ H E I hf st hg
    subst hP hw hK
    obtain ⟨⟨old, he⟩, hit, hne, ha1, ha2⟩ := st
    obtain ⟨xs, x, hq, hx⟩ := hg
    obtain ⟨its, rv, p, hz⟩ := I.tuple hq
    obtain ⟨u, hu, ru⟩ := rv.get hx
    have hel : e < s.heap.objs.size := Heap.lt_size he
    have hil : it < s.heap.objs.size := by obtain ⟨_, q, _⟩ := hit; exact Heap.lt_size q
    have pt : s.heap.IsTuple a its.toArray := p
    have hi : i < its.toArray.size := by
      have := (List.getElem?_eq_some_iff.mp hu).1
      simpa using this
    refine wpAny_pyNext_enum_itemC (Draws.tuple (show X.A.in1.handled = none from I.ok.hd hc) it a ha1 its.toArray) he ⟨hit, pt⟩ hi hne (by simp [hne, ha2.symm]) fun x' h' tk hP ho hst hT hsz hk => ?_
    have ex : x' = u := by
      have hu' : its.toArray[i]? = some u := by simpa using hu
      exact Option.some.inj (hP.symm.trans hu')
    subst ex
    refine ⟨_, rfl, wpAny_letOwnedTupleGo_enum (s := { s with heap := h', toks := tk + 1 }) ho fun h'' he' sb => ?_⟩
    have hT2 : h''.get? s.heap.objs.size = some { cls := .type "tuple", data := .seq #[.int i tk, x'] } := (sb.2 _ (Nat.ne_of_gt hel)).trans hT
    have new : ObjOk X.prog X.w (upd H s.heap.objs.size (.tup [.int (i : Nat), x])) h'' s.heap.objs.size (.tup [.int (i : Nat), x]) :=
      ⟨by show 2 ≤ sizeLine; decide, [.int i tk, x'], .cons ⟨_, rfl⟩ (.cons ru .nil), ⟨_, hT2, rfl, _, rfl⟩⟩
    have I1 : Inv X pins σ (upd H s.heap.objs.size (.tup [.int (i : Nat), x])) { s with heap := h'', toks := tk + 1 } :=
      I.turnedNew (ch := [e, it]) (fun b ob hb q => (sb.2 b (fun z => hb (by simp [z]))).trans (hk b ob (fun z => hb (by simp [z])) (fun z => hb (by simp [z])) q)) hf (Nat.le_refl _) new
    refine ⟨.ref s.heap.objs.size, _, I1, rfl, ⟨_, x, rfl, I.hok.fresh (Nat.le_refl _), rfl, fun ys hy => by rw [I.tuple_inj hy hq]; exact hx⟩, ⟨⟨x', ?_⟩, hst.1.at fun o q => (sb.2 it (Ne.symm hne)).trans q, hne, ha1, ha2⟩, fun b hb => ?_⟩
    · have e1 : ((i + 1 : Nat) : Int) = (i : Int) + 1 := by omega
      rw [e1]; exact he'
    · have hb' : b < s.heap.objs.size := by
        have e' : b = e ∨ b = it := by simpa using hb
        rcases e' with z | z
        · rw [z]; exact hel
        · rw [z]; exact hil
      rw [upd_ne (Nat.ne_of_lt hb')]
      exact (hf b hb).1
  done := by
    intro X hP hw hK hc i pins s σ H E I hf st hg
    subst hP hw hK
    obtain ⟨⟨old, he⟩, hit, hne, ha1, ha2⟩ := st
    obtain ⟨xs, hq, hx⟩ := hg
    obtain ⟨its, rv, p, hz⟩ := I.tuple hq
    obtain ⟨f0, f1, f2, f3, f4, f5⟩ := hf it (by simp)
    have hl := rv.length
    have pt : s.heap.IsTuple a its.toArray := p
    have ei : i = its.toArray.size := by simp; omega
    rw [ei] at hit
    exact wpAny_pyNext_enum_endD (Draws.tuple (show X.A.in1.handled = none from I.ok.hd hc) it a ha1 its.toArray) he ⟨hit, pt⟩ fun h' eb => ⟨rfl, I.turned (t' := s.toks) (fun b o hb q => eb b o hb q) f0 f1 f3 f4 f5⟩
  self := fun A i s Q E st h => let ⟨⟨_, he⟩, _⟩ := st; wpAny_pyIter_enum he h
section
variable {X : Cx} {a : Expr} {p pos tpos : Pos} {elts : List Expr} {kk : Nat} {ms : Rho → T (List D)}
theorem pi_enumT {ta : TA} (hg : Gl X "enumerate") (hm : X.mg "enumerate" = none) (ha : PA X [a] ta) (hs : starEach [a] X.env = [(false, eval a X.env)]) :
    PI X (.Tuple elts kk tpos) (.Call (.Name "enumerate" p) [a] [] pos) (fun σ H R => ta σ H fun vs H1 => ∃ a xs, vs = [.ref a] ∧ SqT X.K H1 a xs ∧ R (Iten X.K a) H1) := by
  refine ⟨fun pins s σ H R I h => ?_⟩
  refine Call_ (ld_blt I hg hm boot_enumerate (PyProof.Rows.callWith_type1 (thn (ha.run pos pins s σ H _ I h) fun us s1 ⟨vs, H1, I1, r1, q1⟩ => ?_) hs rfl))
  obtain ⟨a, xs, ex, hq, q⟩ := q1
  subst ex
  cases r1 with
  | cons r rr =>
    cases rr
    cases r
    obtain ⟨its, rv, p', hz⟩ := I1.tuple hq
    have pt : s1.heap.IsTuple a its.toArray := p'
    have alt : a < s1.heap.objs.size := let ⟨_, ho, _⟩ := p'; Heap.lt_size ho
    refine enum_begins1 (begins_tuple a its.toArray) pt fun h' he hit hsz hk => wpAny_pyIter_enum he ?_
    have I2 : Inv X pins σ H1 { s1 with heap := h' } := I1.kept (t' := s1.toks) hk
    refine ⟨s1.heap.objs.size + 1, [s1.heap.objs.size + 1, s1.heap.objs.size], _, _, H1, rfl, I2, turn_enumT a (s1.heap.objs.size + 1) s1.heap.objs.size, ⟨⟨.none, he⟩, ⟨_, hit, rfl, rfl⟩, Nat.succ_ne_self _, Nat.ne_of_lt alt, Nat.ne_of_lt (Nat.lt_succ_of_lt alt)⟩, fun b hb => ?_, q⟩
    have e' : b = s1.heap.objs.size + 1 ∨ b = s1.heap.objs.size := by simpa using hb
    have hle : s1.heap.objs.size ≤ b := by
      rcases e' with z | z
      · rw [z]; exact Nat.le_add_right _ _
      · rw [z]; exact Nat.le_refl _
    exact I1.fpOk hle (I1.hok.fresh hle)
def numbered : Nat → List D → List D
  | _, [] => []
  | n, d :: ds => .tup [.int n, d] :: numbered (n + 1) ds
theorem numbered_len : ∀ {ds : List D} {n : Nat}, (numbered n ds).length = ds.length
  | [], _ => rfl
  | _ :: ds, n => congrArg Nat.succ numbered_len
theorem numbered_get : ∀ {ds : List D} {n i : Nat} {d : D}, (numbered n ds)[i]? = some d → ∃ x, ds[i]? = some x ∧ d = .tup [.int ((n + i : Nat) : Int), x]
  | [], _, _, _, h => by simp [numbered] at h
  | x :: ds, n, 0, d, h => by simp [numbered] at h; exact ⟨x, rfl, h.symm⟩
  | x :: ds, n, i + 1, d, h => by
    obtain ⟨y, hy, e⟩ := numbered_get (ds := ds) (n := n + 1) (i := i) (by simpa [numbered] using h)
    exact ⟨y, hy, by rw [e]; congr 4; omega⟩
def enumT : List D → T (List D)
  | [.tup ds] => .ret (numbered 0 ds)
  | _ => .fail
theorem si_enumT (hm : X.mg "enumerate" = none) (ha : SndA X [a] ms) (hg : Gl X "enumerate" := by rfl) (hs : starEach [a] X.env = [(false, eval a X.env)] := by rfl) : SndI X (.Tuple elts kk tpos) (.Call (.Name "enumerate" p) [a] [] pos) (iRg enumT ms) := fun {π N0 H0 N H σ ρ R} I h =>
  ⟨_, pi_enumT hg hm pa_wp hs, ha I (T.all_mono (fun ds hd => by
    intro vs H2 e2 r
    unfold enumT at hd
    split at hd
    · cases r with
      | cons r t =>
        cases t
        obtain ⟨a, us, rfl, hq, ra⟩ := id r.tupE
        refine ⟨a, us, rfl, hq, hd _ _ e2 fun N' H' i hn k => ?_⟩
        obtain ⟨a', vs, e, _, sq, _, rb⟩ := sqt_kp k r
        cases e
        refine ⟨fun d hd => ?_, fun e => ⟨vs, sq, by rw [e, numbered_len, rb.length]⟩⟩
        obtain ⟨x, hx, rfl⟩ := numbered_get hd
        obtain ⟨v, hv, rv⟩ := rb.get hx
        refine ⟨⟨vs, v, sq, hv⟩, fun y H3 z => ?_⟩
        obtain ⟨T, x', rfl, hT, rfl, all⟩ := z
        have e3 := all vs sq
        rw [hv] at e3
        cases e3
        have en := Ex.new (o := .tup [V.int (i : Nat), v]) hn.pot hT
        refine ⟨en, .tup (hide_new (hn.new hT)) (hn.pot.ne hT) (.cons ?_ (.cons (rv.mono en.kp.hide) .nil))⟩
        rw [Nat.zero_add]
        exact .int _
    · exact False.elim hd) (T.all_bind.mp h))⟩
end
end Pd

/-! sorted of lists of data, of the keys of a dict. -/
namespace Pd
open PySem L2 PySem.W PySem.Calls PyProof.Rows

def ins {α : Type} (le : α → α → Bool) (a : α) : List α → List α
  | [] => [a]
  | b :: bs => cond (le a b) (a :: b :: bs) (b :: ins le a bs)
def isort {α : Type} (le : α → α → Bool) : List α → List α
  | [] => []
  | a :: as => ins le a (isort le as)
theorem ins_at {α : Type} {le : α → α → Bool} {a : α} : ∀ {l₁ l₂ : List α}, (∀ b ∈ l₁, (!le a b) = true) → (∀ b ∈ l₂, le a b = true) → ins le a (l₁ ++ l₂) = l₁ ++ a :: l₂
  | [], [], _, _ => rfl
  | [], b :: bs, _, h => by
    show cond (le a b) _ _ = _
    rw [h b (List.mem_cons_self ..)]
    rfl
  | c :: cs, l₂, h1, h2 => by
    have hc : le a c = false := by have := h1 c (List.mem_cons_self ..); simpa using this
    show cond (le a c) _ _ = _
    rw [hc]
    show c :: ins le a (cs ++ l₂) = _
    rw [ins_at (fun b hb => h1 b (List.mem_cons_of_mem _ hb)) h2]
    rfl
theorem merge_isort {α : Type} {le : α → α → Bool} (h : TotalLe le) : ∀ l : List α, l.mergeSort le = isort le l
  | [] => by simp [isort]
  | a :: l => by
    have tr : ∀ a b c, le a b = true → le b c = true → le a c = true := h.trans
    have to : ∀ a b, (le a b || le b a) = true := fun a b => Bool.or_eq_true_iff.mpr (h.total a b)
    obtain ⟨l₁, l₂, e1, e2, e3⟩ := List.mergeSort_cons tr to a l
    have hp := sort_pairwise h (a :: l)
    rw [e1] at hp
    have h2 : ∀ b ∈ l₂, le a b = true := (List.pairwise_cons.mp (List.pairwise_append.mp hp).2.1).1
    rw [e1]
    unfold isort
    rw [← merge_isort h l, e2]
    exact (ins_at (fun b hb => e3 b hb) h2).symm

/-- data as PyData (what has none: None) -/
def pyOf (d : D) : PyData := d.py.getD .none
def alikeB (ps : List PyData) : Bool := ps.all fun p => ps.all fun q => alike p q
def headed : PyData → Bool
  | .tuple (_ :: _) => true
  | _ => false
def unheaded : PyData → Bool
  | .none => false
  | .tuple _ => false
  | _ => true
def dLe (x y : D) : Bool := dataLe false pyOf x y
def okSort (ds : List D) : Bool := ds.all (fun d => d.py.isSome && decide ((pyOf d).depth ≤ 32)) && alikeB (ds.map pyOf) && ((ds.map pyOf).all headed || (ds.map pyOf).all unheaded) && small ds
def isEmptyTup : List D → Bool
  | [.tup []] => true
  | _ => false
def sortD (ds : List D) : T (List D) := cond (isEmptyTup ds) (.ret ds) (cond (okSort ds) (.ret (isort dLe ds)) .fail)
theorem alike_of {ps : List PyData} (h : alikeB ps = true) : AllAlike ps := fun d hd d' hd' => List.all_eq_true.mp (List.all_eq_true.mp h d hd) d' hd'
theorem headed_of {p : PyData} (h : headed p = true) : ∃ x r, p = .tuple (x :: r) := by
  unfold headed at h
  split at h
  · exact ⟨_, _, rfl⟩
  · cases h
theorem unheaded_of {p : PyData} (h : unheaded p = true) : p ≠ .none ∧ ∀ xs, p ≠ .tuple xs := by
  unfold unheaded at h
  split at h
  · cases h
  · cases h
  · exact ⟨by assumption, by assumption⟩
theorem sortable_of {ps : List PyData} (h : (ps.all headed || ps.all unheaded) = true) : Sortable ps := by
  rcases Bool.or_eq_true_iff.mp h with h | h
  · exact .inl fun d hd => headed_of (List.all_eq_true.mp h d hd)
  · exact .inr fun d hd => unheaded_of (List.all_eq_true.mp h d hd)

section
variable {X : Cx} {π : Addr} {N : Addr → Bool} {H : Hp} {pins : List (Addr × Obj)} {σ : L2.St} {s : Shared}
theorem each_of {h' : Heap} (I : Inv X pins σ H s) (k : ∀ b o, s.heap.get? b = some o → h'.get? b = some o) : ∀ {ds : List D} {us : List V} {vs : List Value}, RvL X.K X.prog X.w π (Hide N H) us ds → Vals us vs → (∀ d ∈ ds, d.py.isSome = true) →
    ∃ bs : List (V × D), bs.map (·.1) = us ∧ bs.map (·.2) = ds ∧ EachIs (fun (v : Value) (b : V × D) => RelV b.1 v ∧ Rv X.K X.prog X.w π (Hide N H) b.1 b.2) vs bs ∧ EachIs (fun (v : Value) (b : V × D) => ∃ as, Reads h' v (pyOf b.2) as) vs bs
  | _, _, _, .nil, .nil, _ => ⟨[], rfl, rfl, .nil, .nil⟩
  | d :: ds, u :: us, v :: vs, .cons r t, .cons rv rt, hp => by
    obtain ⟨bs, e1, e2, e3, e4⟩ := each_of I k t rt fun d hd => hp d (List.mem_cons_of_mem _ hd)
    have hd := hp d (List.mem_cons_self ..)
    obtain ⟨p, hpy⟩ := Option.isSome_iff_exists.mp hd
    obtain ⟨as, q⟩ := Dp.reads I p u v (r.dp hpy) rv
    refine ⟨(u, d) :: bs, by rw [List.map_cons, e1], by rw [List.map_cons, e2], .cons ⟨rv, r⟩ e3, .cons ⟨as, ?_⟩ e4⟩
    show Reads h' v (d.py.getD .none) as
    rw [hpy]
    exact PyProof.Rows.Reads.keeps k q
theorem each_back : ∀ {vs : List Value} {bs : List (V × D)}, EachIs (fun (v : Value) (b : V × D) => RelV b.1 v ∧ Rv X.K X.prog X.w π (Hide N H) b.1 b.2) vs bs → Vals (bs.map (·.1)) vs ∧ RvL X.K X.prog X.w π (Hide N H) (bs.map (·.1)) (bs.map (·.2))
  | _, _, .nil => ⟨.nil, .nil⟩
  | _, _, .cons h t => ⟨.cons h.1 (each_back t).1, .cons h.2 (each_back t).2⟩
theorem sorts_of {A : Around} {h' : Heap} {tk : Nat} {us : List V} {vs : List Value} {ds : List D} (hu : A.units + 60 < cLine) (I : Inv X pins σ H s) (k : ∀ b o, s.heap.get? b = some o → h'.get? b = some o) (r : RvL X.K X.prog X.w π (Hide N H) us ds) (rv : Vals us vs) {P : List D → Prop} (h : (sortD ds).all P) :
    ∃ κ, SortsAt X.prog X.w A { s with heap := h', toks := tk } κ vs ∧ vs.length ≤ sizeLine ∧ ∃ us' es, P es ∧ RvL X.K X.prog X.w π (Hide N H) us' es ∧ Vals us' (sortVals κ false vs vs) ∧ us'.length ≤ sizeLine := by
  unfold sortD at h
  cases c : isEmptyTup ds with
  | true =>
    rw [c] at h
    have ed : ds = [.tup []] := by
      unfold isEmptyTup at c
      split at c
      · rfl
      · cases c
    subst ed
    cases r with
    | @cons u d us' ds' r t =>
    cases t
    cases rv with
    | @cons _ v _ vs' q t =>
    cases t
    obtain ⟨as, q1⟩ := Dp.reads I (.tuple []) u v (r.dp rfl) q
    have q2 : Reads h' v (.tuple []) as := PyProof.Rows.Reads.keeps k q1
    refine ⟨dataKind h' [.tuple []], ⟨fun x hx => ?_, tuples' true, fun E x y a b Q ha hb hq => ?_, fun h2 => absurd h2 (by simp)⟩, (show 1 ≤ sizeLine by decide), [u], [.tup []], h, .cons r .nil, ?_, (show 1 ≤ sizeLine by decide)⟩
    · have ex : x = v := by simpa using hx
      subst ex
      exact ⟨_, dataKind_some (ds := [.tuple []]) (fun d hd d' hd' => by
        have e1 : d = .tuple [] := by simpa using hd
        have e2 : d' = .tuple [] := by simpa using hd'
        rw [e1, e2]; rfl) (List.mem_cons_self ..) q2⟩
    · obtain ⟨d, as, hd, ra, rfl⟩ := dataKind_inv ha
      obtain ⟨d', as', hd', rb, rfl⟩ := dataKind_inv hb
      have e1 : d = .tuple [] := by simpa using hd
      have e2 : d' = .tuple [] := by simpa using hd'
      subst e1 e2
      have hq' : Q (PyProof.Rows.lexLt itemOrd (keyToksAll []) (keyToksAll [])) { s with heap := h', toks := tk } := hq
      cases ra with
      | @tuple l o xs n _ _ h1 h2 h3 h4 =>
        cases rb with
        | @tuple l' o' xs' n' _ _ k1 k2 k3 k4 =>
          have n1 : xs.size = 0 := by simpa using SeqAt.ReadsAll.length _ _ _ h4
          have n2 : xs'.size = 0 := by simpa using SeqAt.ReadsAll.length _ _ _ k4
          exact kat_lt (s := { s with heap := h', toks := tk }) h1 h3 k1 k3 (katLex_alike (s := { s with heap := h', toks := tk }) [] [] 0 _ _ _ _ h4 k4 rfl (by show A.units + min 0 0 < cLine; omega) (fun _ _ x r t ex => nomatch ex) (by rw [n1, n2]; rfl) hq')
    · unfold sortVals
      rw [show ([v] : List Value).zip [v] = [(v, v)] from rfl, List.mergeSort_singleton]
      exact .cons q .nil
  | false =>
    rw [c] at h
    obtain ⟨ok, h⟩ := cond_all (show (cond (okSort ds) (T.ret (isort dLe ds)) .fail).all P from h)
    unfold okSort at ok
    simp only [Bool.and_eq_true] at ok
    obtain ⟨⟨⟨o1, o2⟩, o3⟩, o4⟩ := ok
    have o1' : ∀ d ∈ ds, d.py.isSome = true ∧ (pyOf d).depth ≤ 32 := fun d hd => by
      have := List.all_eq_true.mp o1 d hd
      simpa using this
    obtain ⟨bs, e1, e2, e3, e4⟩ := each_of (h' := h') I k r rv fun d hd => (o1' d hd).1
    have em : bs.map (fun b => pyOf b.2) = ds.map pyOf := by rw [← e2, List.map_map]; rfl
    have hal : AllAlike (bs.map fun b => pyOf b.2) := by rw [em]; exact alike_of o2
    have hk : Sortable (bs.map fun b => pyOf b.2) := by rw [em]; exact sortable_of o3
    have e5 := sortVals_data (enc := fun b : V × D => pyOf b.2) false e3 e4 hal
    obtain ⟨z1, z2⟩ := each_back e5
    have lz := small_ok r o4
    have lv : vs.length ≤ sizeLine := by rw [← rv.length]; exact lz
    have hu2 : ∀ d, d ∈ (bs.map fun b : V × D => pyOf b.2) → A.units + d.depth < cLine := fun p hp => by
      rw [em] at hp
      obtain ⟨d, hd, rfl⟩ := List.mem_map.mp hp
      have := (o1' d hd).2
      omega
    have es : (bs.mergeSort (dataLe false fun b : V × D => pyOf b.2)).map (·.2) = isort dLe ds := by
      rw [List.map_mergeSort (r := dataLe false fun b : V × D => pyOf b.2) (s := dLe) (f := fun b : V × D => b.2) (l := bs) (fun a _ b _ => rfl), e2]
      exact merge_isort (sortLe_total (listOrd itemOrd) false fun d => keyToks (pyOf d)) ds
    refine ⟨_, SortsAt.data (s := { s with heap := h', toks := tk }) (each_map (R := fun v d => ∃ as, Reads h' v d as) (fun b : V × D => pyOf b.2) e4) hal hk hu2, lv, _, _, h, by rw [← es]; exact z2, z1, ?_⟩
    rw [List.length_map, List.length_mergeSort]
    have := congrArg List.length e1
    rw [List.length_map] at this
    omega
def bSorted : List D → T (List D)
  | [.lst ds] => sortD ds
  | _ => .fail
theorem cs_sorted (hu : X.A.units + 64 < cLine) : CaSndL X (.builtin "sorted") bSorted := fun {π N H xs ds Q} hn r h => by
  unfold bSorted at h
  split at h
  · rename_i ds
    cases r with
    | cons r t =>
    cases t
    refine ⟨fun xs H Q => ∃ a us, xs = [.ref a] ∧ H a = some (.lst us) ∧ RvL X.K X.prog X.w π (Hide N H) us ds ∧ (sortD ds).all (Kl X π N H Q) ∧ HN π N H, ?_, ?_⟩
    · intro pins s σ H xs vs Q I r q
      obtain ⟨a, us, rfl, ha, ru, hq, hn⟩ := q
      obtain ⟨v, rfl, rx⟩ := vals1 r
      cases rx
      obtain ⟨its, rv, p, _⟩ := I.list (.inl (.inl ha))
      obtain ⟨κ, S, lz, us', es, hp, r2, rv2, l2⟩ := sorts_of (A := X.A.in1.in1) (h' := sortingHeap (copyHeap s.heap its) (s.heap.objs.size + 1) its) (tk := s.toks) (by rw [Around.in1_units, Around.in1_units]; omega) I (fun _ _ => sorting_copy_old) ru rv hq
      refine sorted_vals p.isList S lz ?_
      obtain ⟨c, hc⟩ := sortedAll_at s.heap its (sortVals κ false its its).toArray
      have hf : H (s.heap.objs.size + 1) = none := I.hok.fresh (Nat.le_succ _)
      exact ⟨.ref (s.heap.objs.size + 1), upd H (s.heap.objs.size + 1) (.lst us'), I.laid (t' := s.toks) (fun b u e => sortedAll_old e) (Nat.le_succ _) ⟨l2, _, c, rv2, hc⟩, rfl, Kl.new hp hn r2 hf⟩
    · obtain ⟨a, us, rfl, ha, _, _, ra⟩ := r.lstE
      exact ⟨a, us, rfl, ha, ra, h, hn⟩
  · exact False.elim h
theorem kdl_raw {prog : Program} {w : World} {d : Addr} {es : Array DictEntry} {ep : Nat} (lo : (d == sysModules) = false) : KdlSrc prog w "dict" d d es.size (fun i v => ∃ hi : i < es.size, v = es[i].key) (fun h => h.DictRaw d es ep) where
  type := fun _ hm => hm.typeIs
  there := fun _ hm => let ⟨_, ho, _⟩ := hm; ⟨Heap.lt_size ho, Heap.lt_size ho⟩
  keep := fun _ _ hm hk => hm.at fun o e => hk d (.inl rfl) o e
  notList := by decide
  notTuple := by decide
  hint := fun _ _ _ _ hm hq => kdl_hint_dict hm.typeIs hq
  iter := fun _ s hh hm => ⟨_, _, (fun _ _ hq => wpAny_pyIter_dict_raw lo hm hq), Walks.rawKeys hh _ d (let ⟨_, ho, _⟩ := hm; Nat.ne_of_lt (Heap.lt_size ho)) es ep, ⟨⟨_, Heap.get?_push_size _ rfl, rfl, rfl⟩, hm.at fun _ q => Heap.get?_push_of_some _ q⟩⟩
theorem vals_keys : ∀ {xs : List (NestedKey × Addr × V)} {us : List Value}, us.length = xs.length → (∀ (i : Nat) (x : NestedKey × Addr × V) (u : Value), xs[i]? = some x → us[i]? = some u → u = .ref x.2.1) → Vals (xs.map fun x => V.ref x.2.1) us
  | [], [], _, _ => .nil
  | x :: xs, u :: us, hl, h => by
    have e := h 0 x u rfl rfl
    subst e
    exact .cons rfl (vals_keys (by simpa using hl) fun i x u e1 e2 => h (i + 1) x u (by simpa using e1) (by simpa using e2))
  | [], _ :: _, hl, _ => by simp at hl
  | _ :: _, [], hl, _ => by simp at hl
theorem RvD.keysL {K : PySem.W.Frag} {P : Program} {w : World} {H : Hp} : ∀ {kvs : List (D × D)} {xs : List (NestedKey × Addr × V)}, RvD K P w π H xs kvs → RvL K P w π H (xs.map fun x => V.ref x.2.1) (kvs.map (·.1))
  | _, _, .nil => .nil
  | _, _, .cons _ _ rk _ t => .cons rk (RvD.keysL t)
def bSortedD : List D → T (List D)
  | [.dic kvs] => sortD (kvs.map (·.1))
  | _ => .fail
theorem cs_sortedD (hc : X.calm = true) (hu : X.A.units + 64 < cLine) : CaSndL X (.builtin "sorted") bSortedD := fun {π N H xs ds Q} hn r h => by
  unfold bSortedD at h
  split at h
  · rename_i kvs
    cases r with
    | cons r t =>
    cases t
    refine ⟨fun ys H Q => ∃ a od xs, ys = [.ref a] ∧ H a = some (.frz od (DN X.prog X.w a xs)) ∧ RvD X.K X.prog X.w π (Hide N H) xs kvs ∧ (sortD (kvs.map (·.1))).all (Kl X π N H Q) ∧ HN π N H, ?_, ?_⟩
    · intro pins s σ H ys vs Q I r q
      obtain ⟨a, od, xs, rfl, ha, rd, hq, hn⟩ := q
      obtain ⟨v, rfl, rx⟩ := vals1 r
      cases rx
      obtain ⟨lo, lz, zs, pr, dd⟩ := dn_of I (.inr ⟨od, ha⟩) ⟨_, _, _, rd⟩
      obtain ⟨es, ep, raw, hsz, ent⟩ := dd.raw
      have hl : xs.length = zs.length := Paired.length pr
      refine Calls.call_function_entry PyProof.Rows.kind_sorted PyProof.Rows.plain_sorted PyProof.Rows.entry_sorted (PyProof.Rows.args_sorted1 _) ?_
      unfold Builtin.«sorted»
      refine wpAny_bind (m := checkCount "sorted" 1 1 _) (wpAny_pure ?_)
      refine wpAny_bind (kdu_collect (A := X.A.in1) (kdl_raw lo) (I.ok.hd hc) raw (by omega) fun h' tk acc hk hacc => ?_)
      have hal : acc.toList.length = xs.length := by rw [Array.length_toList, hacc.1, hsz, hl]
      have rv : Vals (xs.map fun x => V.ref x.2.1) acc.toList := vals_keys hal fun i x u hx hu2 => by
        obtain ⟨y, hy, e1, e2, _⟩ := PX.get pr hx
        obtain ⟨hi, ek⟩ := hacc.2 i u (by rw [← Array.getElem?_toList]; exact hu2)
        obtain ⟨y', hy', k1, _, _⟩ := ent i hi
        rw [hy] at hy'
        cases hy'
        rw [ek, k1, e2]
      have I1 : Inv X pins σ H { s with heap := h', toks := tk } := I.kept hk
      refine wpAny_bind (wpAny_newList ?_ (by rw [hal]; exact lz))
      have hoL : (h'.push (seqObj "list" acc.toList.toArray 0)).get? h'.objs.size = some (seqObj "list" acc.toList.toArray 0) := Heap.get?_push_size _ rfl
      obtain ⟨κ, S, lz2, us', es', hp, r2, rv2, l2⟩ := sorts_of (A := X.A.in1.in1) (h' := sortingHeap (h'.push (seqObj "list" acc.toList.toArray 0)) h'.objs.size acc.toList) (tk := tk) (by rw [Around.in1_units, Around.in1_units]; omega) I
        (fun b o e => sortingHeap_old (Nat.ne_of_lt (Heap.lt_size (hk b o e))) (Heap.get?_push_of_some _ (hk b o e))) (RvD.keysL rd) rv hq
      show wpAny _ _ _ _ _ { s with heap := h'.push (seqObj "list" acc.toList.toArray 0), toks := tk }
      refine wpAny_bind (wpAny_holding (wpAny_call_entry PyProof.Rows.slot_list_sort ⟨_, hoL, rfl⟩ PyProof.Rows.entry_list_sort
        (list_sort_vals (s := { s with heap := h'.push (seqObj "list" acc.toList.toArray 0), toks := tk }) hoL S lz2 ⟨_, rfl, ?_⟩) (PyProof.Rows.args_list_sort _)))
      obtain ⟨e', he'⟩ := PyProof.Rows.sortedHeap_at (vs := acc.toList) (out := (sortVals κ false acc.toList acc.toList).toArray) hoL
      have hf : H h'.objs.size = none := I1.hok.fresh (Nat.le_refl _)
      refine wpAny_pure ⟨_, rfl, .ref h'.objs.size, upd H h'.objs.size (.lst us'), I1.laid (t' := tk) (fun b u e => ?_) (Nat.le_refl _)
        (show ObjOk X.prog X.w _ _ _ (.lst us') from ⟨l2, _, e', rv2, he'⟩), rfl, Kl.new hp hn r2 hf⟩
      have hb : b < h'.objs.size := Heap.lt_size e
      rw [PyProof.Rows.sortedHeap_old (Nat.ne_of_lt hb) (by rw [size_push']; exact Nat.lt_succ_of_lt hb)]
      exact Heap.get?_push_of_some _ e
    · obtain ⟨a, od, xs, rfl, ha, _, _, ra⟩ := r.dicE
      exact ⟨a, od, xs, rfl, ha, ra, h, hn⟩
  · exact False.elim h
end
end Pd

/-! tuple * 0, tuple * 1, () * n; calls by keywords alone; repr. -/
namespace Pd
open PySem L2 PySem.Spec PyProof.Rows

theorem mul_same (l : Addr) (items : Array Value) (n : Nat) (dd : Option Addr) (sl : Array (Option Value)) (x : Int) (u : Tok) (c0 : (decide (x < -(2 ^ 63)) || decide (x ≥ 2 ^ 63)) = false) (c1 : (items.isEmpty || x == 1) = true) :
    Meets (Builtin.«tuple.__mul__» ⟨[.ref l, .int x u], []⟩) (fun _ R s => s.heap.get? l = some { cls := .type "tuple", dict := dd, data := .seq items n, slots := sl } ∧ R (.ok (.ret (.ref l))) s) :=
  .of_wp fun prog w A R s h => by
    obtain ⟨hp, g, d, tk, os⟩ := s
    obtain ⟨hl, h⟩ := h
    have f1 := AutoSeq1.idx_int
    wp_walk using wpAny_loadPart' hl
    repeat (first
      | (refine wpAny_ite_false (decide_eq_false (by rw [c0]; exact Bool.false_ne_true)) ?_; wp_walk using wpAny_loadPart' hl)
      | (refine wpAny_ite_true (decide_eq_true c1) ?_; wp_walk using wpAny_loadPart' hl))
    exact ⟨_, rfl, h⟩
theorem mul_zero (l : Addr) (items : Array Value) (n : Nat) (dd : Option Addr) (sl : Array (Option Value)) (x : Int) (u : Tok) (c0 : (decide (x < -(2 ^ 63)) || decide (x ≥ 2 ^ 63)) = false) (c1 : (items.isEmpty || x == 1) = false) (c2 : (decide (x ≤ 0) || items.isEmpty) = true) :
    Meets (Builtin.«tuple.__mul__» ⟨[.ref l, .int x u], []⟩) (fun _ R s => s.heap.get? l = some { cls := .type "tuple", dict := dd, data := .seq items n, slots := sl } ∧
      R (.ok (.ret (.ref s.heap.objs.size))) { s with heap := s.heap.push { cls := .type "tuple", data := .seq #[] }, toks := s.toks }) :=
  .of_wp fun prog w A R s h => by
    obtain ⟨hp, g, d, tk, os⟩ := s
    obtain ⟨hl, h⟩ := h
    have f1 := AutoSeq1.idx_int
    wp_walk using wpAny_loadPart' hl
    repeat (first
      | (refine wpAny_ite_false (decide_eq_false (by rw [c0]; exact Bool.false_ne_true)) ?_; wp_walk using wpAny_loadPart' hl)
      | (refine wpAny_ite_false (decide_eq_false (by rw [c1]; exact Bool.false_ne_true)) ?_; wp_walk using wpAny_loadPart' hl)
      | (refine wpAny_ite_true (decide_eq_true c2) ?_; wp_walk using wpAny_loadPart' hl))
    exact ⟨_, rfl, h⟩
section
variable {X : Cx}
theorem op_repS : OpR X (binaryOp .Mult) (fun x y H Q => ∃ l k xs, x = .ref l ∧ y = .int k ∧ SqT X.K H l xs ∧ -1000 ≤ k ∧ k ≤ 1000 ∧ (((xs = [] ∨ k = 1) ∧ Q (.ref l) H) ∨ (xs ≠ [] ∧ k ≤ 0 ∧ ∀ p, H p = none → Q (.ref p) (upd H p (.tup []))))) := by
  intro pins s σ H x y v u Q I rx ry h
  obtain ⟨l, k, xs, rfl, rfl, hT, h1, h2, hq⟩ := h
  cases rx
  obtain ⟨t, rfl⟩ := ry
  obtain ⟨its, r, ⟨⟨cls, dd, data, sl⟩, ho, hc, n, hd⟩, hs⟩ := I.tuple hT
  simp only at hc hd
  subst hc hd
  have hle : its.length = xs.length := r.length.symm
  have c0 : (decide (k < -(2 ^ 63)) || decide (k ≥ 2 ^ 63)) = false := by
    rw [decide_eq_false (by omega), decide_eq_false (by omega)] <;> rfl
  have nilI : xs = [] → its = [] := fun e => List.eq_nil_of_length_eq_zero (by rw [hle, e]; rfl)
  rcases hq with ⟨e, q⟩ | ⟨e, k0, q⟩
  · have c1 : (its.toArray.isEmpty || k == 1) = true := by
      rcases e with e | e
      · rw [nilI e]; rfl
      · rw [e, beq_self_eq_true, Bool.or_true]
    exact wpAny_binaryOp_repeat_ref (T := "tuple") (U := "int") (by decide) ⟨_, ho, rfl⟩ (fun s' => typeIs_int s' k t) noFill_tuple_mul F.fills_int_mul F.slot_int_rmul repeat_tuple F.slot_int_index.lookup
      (call_meets F.slot_int_rmul (typeIs_int s k t) F.entry_int_rmul (F.args_int_rmul_2 _ _) (int_rmul_tuple k t l its.toArray n dd sl)
        ⟨ho, rfl, ⟨_, ho, rfl⟩, call_meets F.slot_tuple_mul ⟨_, ho, rfl⟩ F.entry_tuple_mul (F.args_tuple_mul_2 _ _) (mul_same l its.toArray n dd sl k t c0 c1) ⟨ho, .ref l, H, I, rfl, q⟩⟩)
  · have hn : its ≠ [] := fun z => e (List.eq_nil_of_length_eq_zero (by rw [← hle, z]; rfl))
    have hi : its.toArray.isEmpty = false := by
      cases its with
      | nil => exact absurd rfl hn
      | cons a b => rfl
    have c1 : (its.toArray.isEmpty || k == 1) = false := by
      rw [hi, Bool.false_or]
      exact beq_eq_false_iff_ne.mpr (by omega)
    have c2 : (decide (k ≤ 0) || its.toArray.isEmpty) = true := by
      rw [decide_eq_true k0, Bool.true_or]
    exact wpAny_binaryOp_repeat_ref (T := "tuple") (U := "int") (by decide) ⟨_, ho, rfl⟩ (fun s' => typeIs_int s' k t) noFill_tuple_mul F.fills_int_mul F.slot_int_rmul repeat_tuple F.slot_int_index.lookup
      (call_meets F.slot_int_rmul (typeIs_int s k t) F.entry_int_rmul (F.args_int_rmul_2 _ _) (int_rmul_tuple k t l its.toArray n dd sl)
        ⟨ho, rfl, ⟨_, ho, rfl⟩, call_meets F.slot_tuple_mul ⟨_, ho, rfl⟩ F.entry_tuple_mul (F.args_tuple_mul_2 _ _) (mul_zero l its.toArray n dd sl k t c0 c1 c2)
          ⟨ho, .ref s.heap.objs.size, _, I.laid (t' := s.toks) (o := .tup []) (fun b ob q => Heap.get?_push_of_some _ q) (Nat.le_refl _) ⟨Nat.zero_le _, [], .nil, IsTup.new _ _⟩, rfl, q _ (I.hok.fresh (Nat.le_refl _))⟩⟩)
/-- tuple * int, any -/
def opMulT : D → D → T D
  | .tup a, .int k => cond (a.isEmpty || decide (k = 1)) (cond (decide (-1000 ≤ k) && decide (k ≤ 1000)) (.ret (.tup a)) .fail) (cond (decide (k ≤ 0)) (cond (decide (-1000 ≤ k)) (.ret (.tup [])) .fail) (opMul (.tup a) (.int k)))
  | x, y => opMul x y
theorem os_mulT : OpSnd X (binaryOp .Mult) opMulT := fun {π N H x y dx dy Q} hn rx ry h => by
  unfold opMulT at h
  split at h
  · rename_i ds k
    cases c : (ds.isEmpty || decide (k = 1)) with
    | true =>
      rw [c] at h
      obtain ⟨hb, h⟩ := cond_all (show (cond (decide (-1000 ≤ k) && decide (k ≤ 1000)) (T.ret (D.tup ds)) .fail).all _ from h)
      simp only [Bool.and_eq_true, decide_eq_true_eq] at hb
      obtain ⟨a, vs, rfl, ha, ra⟩ := id rx.tupE
      cases ry
      refine ⟨_, op_repS, a, k, vs, rfl, rfl, ha, hb.1, hb.2, .inl ⟨?_, h _ _ (Ex.refl hn.pot) rx⟩⟩
      rcases Bool.or_eq_true_iff.mp c with z | z
      · exact .inl (ra.nil_of.mpr (by simpa using z))
      · exact .inr (of_decide_eq_true z)
    | false =>
      rw [c] at h
      cases c2 : decide (k ≤ 0) with
      | true =>
        rw [c2] at h
        obtain ⟨hb, h⟩ := cond_all (show (cond (decide (-1000 ≤ k)) (T.ret (D.tup [])) .fail).all _ from h)
        have k0 := of_decide_eq_true c2
        obtain ⟨a, vs, rfl, ha, ra⟩ := id rx.tupE
        cases ry
        refine ⟨_, op_repS, a, k, vs, rfl, rfl, ha, of_decide_eq_true hb, by omega, .inr ⟨fun e => ?_, k0, fun p hp => Kd.new h hn .nil hp⟩⟩
        rw [ra.nil_of.mp e] at c
        cases c
      | false =>
        rw [c2] at h
        exact os_mul hn rx ry h
  · exact os_mul hn rx ry h
end

/-! ### calls by keywords alone -/
def pickD (perm : List Nat) (ds : List D) : List D := perm.map fun i => ds.getD i .non
def KBind (K : PySem.W.Frag) (fd : FuncData) (ps ks : List Str) (perm : List Nat) : Prop := ∀ (s : Shared) (us : List Value), K.In s.heap → us.length = ks.length → BindsTo s fd ⟨[], ks.zip us⟩ (ps.zip (perm.map fun i => us.getD i .none))
def eCallK (n : Nat) (perm : List Nat) (F : List D → T D) (ms : Rho → T (List D)) : Rho → T D := fun ρ => (ms ρ).bind fun ds => cond (ds.length == n) (F (pickD perm ds)) .fail
theorem vals_pick {vs : List V} {us : List Value} (r : Vals vs us) : ∀ perm : List Nat, Vals (perm.map fun i => vs.getD i .non) (perm.map fun i => us.getD i .none)
  | [] => .nil
  | i :: perm => by
    refine .cons ?_ (vals_pick r perm)
    show RelV (vs.getD i .non) (us.getD i .none)
    rw [List.getD_eq_getElem?_getD, List.getD_eq_getElem?_getD]
    cases q : vs[i]? with
    | none =>
      have : us[i]? = none := List.getElem?_eq_none (by have := List.getElem?_eq_none_iff.mp q; rw [← r.length]; exact this)
      rw [this]
      rfl
    | some v =>
      obtain ⟨u, hu, ru⟩ := r.get q
      rw [hu]
      exact ru
theorem rvl_pick {K : PySem.W.Frag} {P : Program} {w : World} {π : Addr} {H : Hp} {vs : List V} {ds : List D} (r : RvL K P w π H vs ds) : ∀ perm : List Nat, RvL K P w π H (perm.map fun i => vs.getD i .non) (pickD perm ds)
  | [] => .nil
  | i :: perm => by
    refine .cons ?_ (rvl_pick r perm)
    show Rv K P w π H (vs.getD i .non) (ds.getD i .non)
    rw [List.getD_eq_getElem?_getD, List.getD_eq_getElem?_getD]
    cases q : ds[i]? with
    | none =>
      have : vs[i]? = none := List.getElem?_eq_none (by have := List.getElem?_eq_none_iff.mp q; rw [r.length]; exact this)
      rw [this]
      exact .non
    | some d =>
      obtain ⟨v, hv, rv⟩ := r.get q
      rw [hv]
      exact rv
section
variable {X : Cx} {pos : Pos}
theorem s_callK {k n : Nat} {f : Addr} {fd : FuncData} {ps ks : List Str} {perm : List Nat} {F : List D → T D} {x : Str} {p : Pos} {kws : List Keyword} {ms : Rho → T (List D)} (G : FnOk X.prog X.w X.K X.mg X.base CX0 k f fd ps (spD X.K X.prog X.w n F)) (hr : Room k X.A) (hm : X.mg x = some (.ref f)) (hk : PySem.W.keepIn X.K (.ref f) = true)
    (hb : KBind X.K fd ps ks perm) (hp : perm.length = n) (hkn : ks.length = n) (ha : SndK X kws ms) (hg : Gl X x := by rfl) (hall : (backToKw pos (keywordEach kws X.env)).all (·.1.isSome) = true := by rfl) (hks : (backToKw pos (keywordEach kws X.env)).filterMap (·.1) = ks := by rfl)
    (hdb : (x == ("__debug__" : Str)) = false := by decide) (hpl : ((backTo pos (starEach [] X.env)).any (·.1) || (backToKw pos (keywordEach kws X.env)).any (·.1.isNone)) = false := by rfl) : Snd X (.Call (.Name x p) [] kws pos) (eCallK n perm F ms) := fun {π N0 H0 N H σ ρ Q} I h => by
  refine ⟨fun σ H Q => wpK X kws σ H fun zs H2 => zs.length = n ∧ spD X.K X.prog X.w n F (perm.map fun i => zs.getD i .non) H2 Q E0, ⟨fun pins s σ H Q J q => ?_⟩, ?_⟩
  · refine wpAny_Call_Name_kw (ld_glob J hg hm ?_ hdb)
    refine PySem.W.callWith_KW0 (h₀ := X.base) J.ok.mod.kin hk hall (thn (pk_wp.run pos pins s σ H _ J q) fun ws s2 ⟨zs, H2, I2, rz, hz, q2⟩ => ⟨I2.kIn, ?_⟩) hpl
    rw [hks]
    show wpAny _ _ (call (.ref f) [] (ks.zip ws)) _ _ _
    have r2 := vals_pick rz perm
    refine wpAny_call (codeAny_mono (G.run X.A X.stack s2 H2 ⟨[], ks.zip ws⟩ _ _ Q E0 hr I2.env0 (hb s2 ws I2.kIn (by rw [← rz.length, hz, hkn])) r2 q2) fun r s' hq => ?_)
    cases r with
    | error e => exact pass0 pins σ H2 s2 e s' I2 hq
    | ok fl =>
      cases fl with
      | ret u => exact I2.after hq
      | next => exact False.elim hq
      | brk => exact False.elim hq
      | cont => exact False.elim hq
  · refine ha I (T.all_mono (fun ds hd => ?_) (T.all_bind.mp h))
    intro vs H2 e1 r
    obtain ⟨hn, hd⟩ := cond_all hd
    have hn : ds.length = n := by simpa using hn
    exact ⟨by rw [r.length]; exact hn, π, N, pickD perm ds, I.hn.ext e1, rvl_pick r perm, by rw [List.length_map]; exact hp, T.all_mono (fun d q v H3 e3 r3 => q v H3 (e1.trans e3) r3) hd⟩
/-! ### repr of lists of data -/
def bRepr : List D → T D
  | [.lst ds] => match D.py (.lst ds) with
    | some p => cond (p.showable && !p.hasDict && decide (p.depth ≤ 32) && decide (p.shown.length ≤ 100000)) (.ret (.str p.shown)) .fail
    | none => .fail
  | _ => .fail
theorem cs_repr (hg : X.A.guards = some []) (hu : X.A.units + 64 < cLine) : CaSnd X (.builtin "repr") bRepr := fun {π N H xs ds Q} hn r h => by
  unfold bRepr at h
  split at h
  · rename_i ds
    split at h
    · rename_i p hp
      obtain ⟨hb, h⟩ := cond_all h
      simp only [Bool.and_eq_true, Bool.not_eq_true', decide_eq_true_eq] at hb
      obtain ⟨⟨⟨b1, b2⟩, b3⟩, b4⟩ := hb
      cases r with
      | cons r t =>
      cases t
      refine ⟨fun ys H Q => ∃ a, ys = [.ref a] ∧ Dp X.K H (.ref a) p ∧ Q (.str p.shown) H, ?_, ?_⟩
      · intro pins s σ H ys vs Q I r q
        obtain ⟨a, rfl, hd, hq⟩ := q
        obtain ⟨v, rfl, rx⟩ := vals1 r
        cases rx
        obtain ⟨as, rd⟩ := Dp.reads I p (.ref a) (.ref a) hd rfl
        exact repr_of_reads' rd b1 (PyData.noDict_hsm b2) hg (by omega) (fun _ _ q => q) (fun h' u tk hk => ⟨.str p.shown, H, I.kept (t' := tk) hk, ⟨u, rfl⟩, hq⟩) (Nat.le_trans b4 (by decide))
      · obtain ⟨a, vs, rfl, ha, _, _, ra⟩ := id r.lstE
        exact ⟨a, rfl, r.dp hp, h _ _ (Ex.refl hn.pot) (.str _)⟩
    · exact False.elim h
  · exact False.elim h
end
end Pd

/-! Promises of defs that are called where no object's repr is under way. -/
namespace Pd
open PySem L2 PySem.Spec PyProof.Rows

structure FnG (P : Program) (w : World) (K : PySem.W.Frag) (mg : Str → Option Value) (base : Heap) (CX : CXT) (k : Nat) (f : Addr) (fd : FuncData) (ps : List Str) (sp : Sp) : Prop where
  len : ∀ zs Hx Qx Ex, sp zs Hx Qx Ex → zs.length = ps.length
  run : ∀ (A : Around) (out : List Env) (s : Shared) (H : Hp) (as : Args) (us : List Value) (vs : List V) (Q : VK) (E : XK), Room k A → A.guards = some [] → Env0 P w K mg base A out s H → BindsTo s fd as (ps.zip us) → Vals vs us → sp vs H Q E →
    codeAny (model P w) A (.call (.ref f) as) (CR CX out P w H s Q E) s
theorem fnG_of {CX : CXT} {P : Program} {w : World} {K : PySem.W.Frag} {mg : Str → Option Value} {base : Heap} {k : Nat} {f : Addr} {name qual : Str} {params : Arguments} {body : List Stmt} {scope : Scope} {dV kV doc pm cdv ct oc : Value} {an od : Option Addr}
    {osl : Array (Option Value)} {Nm ps : List Str} {sp : Sp} (lk : K.lookup f = some ⟨oc, od, .func (PySem.W.fnOf name qual params body scope dV kV doc pm an cdv ct), osl⟩) (hcd : PySem.W.codeIn K cdv qual = true) (S : FnScope Nm ps scope)
    (len : ∀ zs Hx Qx Ex, sp zs Hx Qx Ex → zs.length = ps.length)
    (hb : ∀ (A : Around) (out : List Env) (s : Shared) (H : Hp) (vs : List V) (Q : VK) (E : XK), Room k (A.deeper (envOfC qual scope s.heap.objs.size f cdv)) → A.guards = some [] → sp vs H Q E →
      ∃ t, PSs (cxOf CX P w K mg base Nm qual scope f cdv A out s H E) body t ∧ t { nx := fun _ H1 => Q .non H1, rt := Q } (start Nm vs) H) :
    FnG P w K mg base CX (k + 1) f (PySem.W.fnOf name qual params body scope dV kV doc pm an cdv ct) ps sp := by
  refine ⟨len, fun A out s H as us vs Q E hr hgd e0 hbd r hsp => ?_⟩
  have hl := len _ _ _ _ hsp
  have hK : K.In s.heap := e0.mod.kin.keeps fun b o e => (e0.bs b o e).1
  have hnl : s.heap.NoLimit := e0.mod.nolimit.keeps fun b o e => (e0.bs b o e).1
  have hkd : ∀ y ∈ ps.zip us, scope.names.lookup y.1 = some .local ∨ (scope.names.lookup y.1 = some .cell ∧ ((cellsFrom (s.heap.objs.size + 1) scope.names []).lookup y.1).isSome = true) := by
    intro ⟨n, v⟩ hy
    rcases S.par n (List.of_mem_zip hy).1 with q | q
    · exact Or.inl q
    · exact Or.inr ⟨q, PySem.W.cellsFrom_some _ _ _ (.inl q)⟩
  refine codeAny_call_function hr.depth (hK _ _ lk) rfl S.co S.gen rfl (PySem.W.codeRec_of hK hcd) (hbd _ _ _ _ (wpAny_newFunctionEnv_cells S.kind hkd fun env he s1 x => ?_))
  subst he
  refine ⟨hnl.keeps x.toInCall.keep, codeAny_func ?_⟩
  obtain ⟨t, ht, hq⟩ := hb A out s H vs Q E (hr.deeper _) hgd hsp
  have J0 := inv_start (E := E) (CX := CX) S hr.hd e0 hl r x
  refine wpAny_mono (ht.run [] s1 (start Nm vs) H _ J0 hq) (fun fl s2 hs => ?_) fun _ _ z => z
  cases fl with
  | ret u =>
    obtain ⟨v, σ2, H2, J, rv, q⟩ := hs
    exact ⟨v, H2, J.os, J.bare, J.base, J.hok, rv, q⟩
  | next =>
    obtain ⟨σ2, H2, J, q⟩ := hs
    exact ⟨V.non, H2, J.os, J.bare, J.base, J.hok, rfl, q⟩
  | brk =>
    obtain ⟨_, _, _, q⟩ := hs
    exact q.elim
  | cont =>
    obtain ⟨_, _, _, q⟩ := hs
    exact q.elim
section
variable {P : Program} {w : World} {K : PySem.W.Frag} {mg : Str → Option Value} {base : Heap}
theorem okG {x qual : Str} {st : Stmt} {f : Addr} {fd : FuncData} {Nm ps : List Str} {k : Nat} {sp : Sp} (F : Fun K x qual st f fd) (S : FnScope Nm ps (defScope st)) (len : ∀ zs Hx Qx Ex, sp zs Hx Qx Ex → zs.length = ps.length)
    (hb : ∀ (cdv : Value) (A : Around) (outer : List Env) (s : Shared) (H : Hp) (vs : List V) (Q : VK) (E : XK), Room k (A.deeper (PyProof.Rows.envOfC qual (defScope st) s.heap.objs.size f cdv)) → A.guards = some [] → sp vs H Q E →
      ∃ t, PSs (cxOf CX0 P w K mg base Nm qual (defScope st) f cdv A outer s H E).nox (defBody st) t ∧ t { nx := fun _ H1 => Q .non H1, rt := Q } (start Nm vs) H) : FnG P w K mg base CX0 (k + 1) f fd ps sp := by
  obtain ⟨oc, od, kV, doc, pm, an, cdv, ct, osl, rfl, lk, hcd⟩ := F.ex
  refine fnG_of lk hcd S len fun A outer s H vs Q E hr hgd h => ?_
  obtain ⟨t, ht, hq⟩ := hb cdv A outer s H vs Q E hr hgd h
  exact ⟨t, ht.nox, hq⟩
theorem fnG_ok {x qual : Str} {st : Stmt} {f : Addr} {fd : FuncData} {Nm ps : List Str} {k n p : Nat} {m : Rho → T Out} {G : List D → T D} (F : Fun K x qual st f fd) (S : FnScope Nm ps (defScope st)) (hn : Nm.length = n) (hp : ps.length = p) (hG : G = runB n m)
    (hb : ∀ (cdv : Value) (A : Around) (outer : List Env) (s : Shared) (H : Hp) (E : XK), Room k (A.deeper (PyProof.Rows.envOfC qual (defScope st) s.heap.objs.size f cdv)) → A.guards = some [] → SndB (cxOf CX0 P w K mg base Nm qual (defScope st) f cdv A outer s H E).nox (defBody st) m) :
    FnG P w K mg base CX0 (k + 1) f fd ps (spD K P w p G) := by
  subst hn hp hG
  obtain ⟨oc, od, kV, doc, pm, an, cdv, ct, osl, rfl, lk, hcd⟩ := F.ex
  refine fnG_of lk hcd S (fun vs H Q E h => ?_) (fun A outer s H vs Q E hr hgd h => ?_)
  · obtain ⟨π, N, ds, hn, r, hl, _⟩ := h
    exact hl
  · obtain ⟨π, N, ds, hn, r, hl, hall⟩ := h
    have z := hb cdv A outer s H E hr hgd (De := { nx := fun _ H' => Q .non H', rt := Q }) (env_start hn r) (T.all_mono (fun o ho => by
      cases o with
      | nx ρ => exact fun N' H' σ' I => ho .non H' ⟨I.ex, I.hn.pot⟩ .non
      | rt d => exact fun v H' e r => ho v H' e r
      | bk ρ => exact False.elim ho
      | ct ρ => exact False.elim ho) (T.all_bind.mp hall))
    obtain ⟨t, ht, hq⟩ := z
    exact ⟨t, ht.nox, hq⟩
end
section
variable {X : Cx} {e : Expr} {es : List Expr} {pos : Pos}
theorem pe_callG {k : Nat} {f : Addr} {fd : FuncData} {ps : List Str} {sp : Sp} {x : Str} {p : Pos} {t : TA} (G : FnG X.prog X.w X.K X.mg X.base CX0 k f fd ps sp) (hr : Room k X.A) (hgd : X.A.guards = some []) (hm : X.mg x = some (.ref f)) (hk : PySem.W.keepIn X.K (.ref f) = true) (hb : Binds X.K fd ps [])
    (ha : PA X (e :: es) t) (hg : Gl X x := by rfl) (hdb : (x == ("__debug__" : Str)) = false := by decide) (he : starEach (e :: es) X.env = (false, eval e X.env) :: starEach es X.env := by rfl) (hpl : (backTo pos (starEach es X.env)).any (·.1) = false := by rfl) :
    PE X (.Call (.Name x p) (e :: es) [] pos) (fun σ H Q => t σ H fun zs H2 => sp zs H2 Q E0) := by
  refine ⟨fun pins s σ H Q J q => ?_⟩
  refine wpAny_Call_Name_kw (ld_glob J hg hm ?_ hdb)
  refine PySem.W.callWith_K (h₀ := X.base) J.ok.mod.kin hk (thn (ha.run pos pins s σ H _ J q) fun us s1 ⟨vs, H1, I1, r, q⟩ => ⟨I1.kIn, ?_⟩) he hpl
  have hl : us.length = ps.length := by rw [← r.length]; exact G.len _ _ _ _ q
  have b0 := hb s1 us I1.kIn (by rw [List.append_nil]; exact hl)
  rw [List.append_nil] at b0
  show wpAny _ _ (call (.ref f) us) _ _ _
  refine wpAny_call (codeAny_mono (G.run X.A X.stack s1 H1 ⟨us, []⟩ us vs Q E0 hr hgd I1.env0 b0 r q) fun r s' hq => ?_)
  cases r with
  | error e => exact pass0 pins σ H1 s1 e s' I1 hq
  | ok fl =>
    cases fl with
    | ret u => exact I1.after hq
    | next => exact False.elim hq
    | brk => exact False.elim hq
    | cont => exact False.elim hq
theorem s_callG {k n : Nat} {f : Addr} {fd : FuncData} {ps : List Str} {F : List D → T D} {x : Str} {p : Pos} {ms : Rho → T (List D)} (G : FnG X.prog X.w X.K X.mg X.base CX0 k f fd ps (spD X.K X.prog X.w n F)) (hr : Room k X.A) (hgd : X.A.guards = some []) (hm : X.mg x = some (.ref f)) (hk : PySem.W.keepIn X.K (.ref f) = true) (hb : Binds X.K fd ps [])
    (ha : SndA X (e :: es) ms) (hg : Gl X x := by rfl) (hdb : (x == ("__debug__" : Str)) = false := by decide) (he : starEach (e :: es) X.env = (false, eval e X.env) :: starEach es X.env := by rfl) (hpl : (backTo pos (starEach es X.env)).any (·.1) = false := by rfl) :
    Snd X (.Call (.Name x p) (e :: es) [] pos) (eCall n F ms) := fun {π N0 H0 N H σ ρ Q} I h =>
  ⟨_, pe_callG G hr hgd hm hk hb pa_wp hg hdb he hpl, ha I (T.all_mono (fun ds hd vs H2 e1 r => by
    obtain ⟨hn, hd⟩ := cond_all hd
    exact ⟨π, N, ds, I.hn.ext e1, r, by rw [r.length]; exact by simpa using hn, T.all_mono (fun d q v H3 e3 r3 => q v H3 (e1.trans e3) r3) hd⟩) (T.all_bind.mp h))⟩
end
/-! ### the law is called -/
theorem law_callG {P : Program} {w : World} {K : PySem.W.Frag} {mg mb : Str → Option Value} {k : Nat} {fa a : Addr} {fd : FuncData} {x : Str} {sp : Sp} {s0 : Shared} {vs : List Value} {ns : List Int}
    (hK : K.In s0.heap) (hns : s0.heap.Ns mainGlobals mg) (hb : s0.heap.Ns builtinsNs mb) (hbb : ∀ x : Str, x ≠ "__name__" → mb x = bootBuiltins x) (hlim : s0.heap.NoLimit) (hg : s0.gens = #[])
    (ha : s0.heap.get? a = some { cls := .type "list", data := .seq vs.toArray }) (hi : IntsAre vs ns) (hl : ns.length ≤ sizeLine) (hr : Room k callerA)
    (F : ∀ base : Heap, K.In base → base.Ns mainGlobals mg → FnG P w K mg base CX0 k fa fd [x] sp) (hbind : ∀ (s : Shared) (u : Value), BindsTo s fd ⟨[u], []⟩ [(x, u)])
    (hsp : ∀ H : Hp, Only H → SqL K H a (ns.map V.int) → sp [.ref a] H (fun v _ => v = .bl true) fun _ _ _ => False) :
    codeAny (model P w) callerA (.call (.ref fa) ⟨[.ref a], []⟩) (fun r s2 => r = .ok (.ret (.bool true)) ∧ OldK s0.heap s2.heap ∧ s2.os = s0.os ∧ AllBare s2.gens) s0 := by
  have rv := vals_ints hi
  have hvl := hi.length
  -- H tracks the script at most
  have main : ∀ H : Hp, Only H → SqL K H a (ns.map V.int) → HOk P w H s0.heap → (∀ b, H b ≠ none → b = a) → (H a ≠ none → K.lookup a = none) →
      codeAny (model P w) callerA (.call (.ref fa) ⟨[.ref a], []⟩) (fun r s2 => r = .ok (.ret (.bool true)) ∧ OldK s0.heap s2.heap ∧ s2.os = s0.os ∧ AllBare s2.gens) s0 := by
    intro H hO hS hok hA hn
    have old : ∀ {b : Addr} {o : Obj}, s0.heap.get? b = some o → H b = none → (hidT s0.heap H).get? b = some o := fun e n => hidT_get e n
    have dicts : ∀ {b : Addr} {o : Obj} {es : Array DictEntry} {ep : Nat}, s0.heap.get? b = some o → o.data = .dict es ep → H b = none := by
      intro b o es ep e d
      cases q : H b with
      | none => rfl
      | some u =>
        have eb := hA b (by rw [q]; simp)
        rw [eb, ha] at e
        cases e
        exact absurd d (fun z => by cases z)
    have spaces : ∀ {b : Addr} {m : Str → Option Value}, s0.heap.Ns b m → (hidT s0.heap H).Ns b m := fun ⟨o, es, ep, e, d, r⟩ => ⟨o, es, ep, old e (dicts e d), d, r⟩
    have kin : K.In (hidT s0.heap H) := fun b o e => old (hK b o e) (by
      cases q : H b with
      | none => rfl
      | some u =>
        have eb := hA b (by rw [q]; simp)
        rw [eb] at q e
        rw [hn (by rw [q]; simp)] at e
        cases e)
    have md : Mod K mg (hidT s0.heap H) := ⟨kin, spaces hns, ⟨mb, spaces hb, hbb⟩, let ⟨mc, h1, h2⟩ := hlim; ⟨mc, spaces h1, h2⟩⟩
    have e0 : Env0 P w K mg (hidT s0.heap H) callerA [] s0 H := ⟨rfl, md, fun b o e => of_hidT e, Nat.le_of_eq (hidT_size _ _), trivial, fun b hb => absurd (show b ∈ ([] : List Addr) from hb) (by simp), hok, .of_eq hg⟩
    refine codeAny_mono ((F _ kin (spaces hns)).run callerA [] s0 H ⟨[.ref a], []⟩ [.ref a] [.ref a] _ _ hr rfl e0 (hbind s0 (.ref a)) (.cons rfl .nil) (hsp H hO hS)) fun r s2 h => ?_
    cases r with
    | error e => exact False.elim h
    | ok fl =>
      cases fl with
      | ret u =>
        obtain ⟨v, H2, os, bare, un, hok2, rr, q⟩ := h
        cases (show v = .bl true from q)
        cases (show u = Value.bool true from rr)
        refine ⟨rfl, OldK.of_keep fun b o e => ?_, os, bare⟩
        cases q : H b with
        | none => exact un.keep b o e q (by simp [frs]) (by simp)
        | some u =>
          rcases hO b with z | ⟨ob, xs, z⟩
          · rw [q] at z; cases z
          · obtain ⟨g1, _⟩ := hok b _ z
            obtain ⟨g2, _⟩ := hok2 b _ (un.frzs b ob _ z)
            rw [e] at g1
            cases g1
            exact g2
      | next => exact False.elim h
      | brk => exact False.elim h
      | cont => exact False.elim h
  cases hk : K.lookup a with
  | some o =>
    have e := hK a o hk
    rw [ha] at e
    cases e
    exact main (fun _ => none) (fun _ => .inl rfl) (.inr ⟨_, vs.toArray, _, hk, rfl, rfl, rfl, by rw [List.size_toArray, hvl]; exact hl, by simpa using rv⟩) (fun b u z => nomatch (show (none : Option HO) = some u from z)) (fun b z => absurd rfl z) fun z => absurd rfl z
  | none =>
    let H : Hp := fun b => if b = a then some (.frz { cls := .type "list", data := .seq vs.toArray } (.lst (ns.map V.int))) else none
    have at_a : H a = some (.frz { cls := .type "list", data := .seq vs.toArray } (.lst (ns.map V.int))) := if_pos rfl
    have off : ∀ b, b ≠ a → H b = none := fun b nb => if_neg nb
    refine main H (fun b => ?_) (.inl (.inr ⟨_, at_a⟩)) (fun b u z => ?_) (fun b z => ?_) fun _ => hk
    · by_cases q : b = a
      · exact .inr ⟨_, _, by rw [q]; exact at_a⟩
      · exact .inl (off b q)
    · by_cases q : b = a
      · subst q
        rw [at_a] at z
        cases z
        exact ⟨ha, by rw [List.length_map]; exact hl, vs, _, rv, ha⟩
      · rw [off b q] at z; cases z
    · by_cases q : b = a
      · exact q
      · exact absurd (off b q) z
theorem walkG {l : PySem.W.OpenLaw} {n k : Nat} {q : Program} {loose : List Str} {XP : (Str → Option Value) → Heap → Prop} {YP : World → Heap → Prop} {d : DefRec} {K : Params → PySem.W.Frag} {sp : World → Sp} {x : Str}
    (hn : l.most = some n) (hn2 : n ≤ sizeLine) (hdf : d.params.defaults = []) (hr : Room k callerA) (hY : ∀ (w : World) (h : Heap), YP w h → (K w.params).In h)
    (F : ∀ (w : World) (mg : Str → Option Value) (fa : Addr) (h : Heap), (K w.params).In h → h.Ns mainGlobals mg → mg d.name = some (.ref fa) →
      ∃ fd : FuncData, (∀ (s : Shared) (u : Value), BindsTo s fd ⟨[u], []⟩ [(x, u)]) ∧ ∀ base : Heap, (K w.params).In base → base.Ns mainGlobals mg → FnG l.prog w (K w.params) mg base CX0 k fa fd [x] (sp w))
    (hsp : ∀ (w : World) (H : Hp) (a : Addr) (ns : List Int), ns.length ≤ n → Only H → SqL (K w.params) H a (ns.map V.int) → sp w [.ref a] H (fun v _ => v = .bl true) fun _ _ _ => False) :
    PySem.W.WalkO q loose XP YP l.row.toRowW d [] (fun f vs => PySem.call f vs) := by
  refine Att.attach_call hn hdf fun w s₀ s₁ mg mb fa o pm cd doc a vs ns G Y ho hd hcd hmg hobj hints hlen hg => ?_
  have kx := hY w _ Y
  obtain ⟨fd, hb, hF⟩ := F w mg fa _ kx G.T.g hmg
  exact law_callG kx G.T.g G.T.b G.T.builtins G.T.nolimit hg hobj hints (Nat.le_trans hlen hn2) hr hF hb fun H hO hS => hsp w H a ns hlen hO hS
/-! draws -/
def f__law_draw : List D → T D
  | [.pot, .int n] => cond (decide (0 < n) && decide (n ≤ 1000000)) (.draw n.toNat fun i => .ret (.int i)) .fail
  | _ => .fail
end Pd

namespace Pd
open PySem L2
abbrev top (i : Nat) : Stmt := PySem.Challenge.pw_aheadsums_k26_how_many_lacings.main.body.getD i (.Pass ⟨0, 0, 0, 0⟩)
structure Txt (K : PySem.W.Frag) (mg : Str → Option Value) (a__law_draw a_is_integer a_is_count a_is_count_to a_need_columns a_is_letter_to a_is_word a_is_word_to a_need_word a_both_letters a_how_many a__need_many a_lacings a_laced a__next_line a__with_letter a__law_ways a__law_paired a__law_due a__law_right : Addr) : Prop where
  m__law_draw : mg "_law_draw" = some (.ref a__law_draw)
  k__law_draw : PySem.W.keepIn K (.ref a__law_draw) = true
  m_is_integer : mg "is_integer" = some (.ref a_is_integer)
  k_is_integer : PySem.W.keepIn K (.ref a_is_integer) = true
  m_is_count : mg "is_count" = some (.ref a_is_count)
  k_is_count : PySem.W.keepIn K (.ref a_is_count) = true
  m_is_count_to : mg "is_count_to" = some (.ref a_is_count_to)
  k_is_count_to : PySem.W.keepIn K (.ref a_is_count_to) = true
  m_need_columns : mg "need_columns" = some (.ref a_need_columns)
  k_need_columns : PySem.W.keepIn K (.ref a_need_columns) = true
  m_is_letter_to : mg "is_letter_to" = some (.ref a_is_letter_to)
  k_is_letter_to : PySem.W.keepIn K (.ref a_is_letter_to) = true
  m_is_word : mg "is_word" = some (.ref a_is_word)
  k_is_word : PySem.W.keepIn K (.ref a_is_word) = true
  m_is_word_to : mg "is_word_to" = some (.ref a_is_word_to)
  k_is_word_to : PySem.W.keepIn K (.ref a_is_word_to) = true
  m_need_word : mg "need_word" = some (.ref a_need_word)
  k_need_word : PySem.W.keepIn K (.ref a_need_word) = true
  m_both_letters : mg "both_letters" = some (.ref a_both_letters)
  k_both_letters : PySem.W.keepIn K (.ref a_both_letters) = true
  m_how_many : mg "how_many" = some (.ref a_how_many)
  k_how_many : PySem.W.keepIn K (.ref a_how_many) = true
  m__need_many : mg "_need_many" = some (.ref a__need_many)
  k__need_many : PySem.W.keepIn K (.ref a__need_many) = true
  m_lacings : mg "lacings" = some (.ref a_lacings)
  k_lacings : PySem.W.keepIn K (.ref a_lacings) = true
  m_laced : mg "laced" = some (.ref a_laced)
  k_laced : PySem.W.keepIn K (.ref a_laced) = true
  m__next_line : mg "_next_line" = some (.ref a__next_line)
  k__next_line : PySem.W.keepIn K (.ref a__next_line) = true
  m__with_letter : mg "_with_letter" = some (.ref a__with_letter)
  k__with_letter : PySem.W.keepIn K (.ref a__with_letter) = true
  m__law_ways : mg "_law_ways" = some (.ref a__law_ways)
  k__law_ways : PySem.W.keepIn K (.ref a__law_ways) = true
  m__law_paired : mg "_law_paired" = some (.ref a__law_paired)
  k__law_paired : PySem.W.keepIn K (.ref a__law_paired) = true
  m__law_due : mg "_law_due" = some (.ref a__law_due)
  k__law_due : PySem.W.keepIn K (.ref a__law_due) = true
  m__law_right : mg "_law_right" = some (.ref a__law_right)
  k__law_right : PySem.W.keepIn K (.ref a__law_right) = true
  z_all : mg "all" = none
  z_bool : mg "bool" = none
  z_enumerate : mg "enumerate" = none
  z_int : mg "int" = none
  z_isinstance : mg "isinstance" = none
  z_len : mg "len" = none
  z_min : mg "min" = none
  z_range : mg "range" = none
  z_repr : mg "repr" = none
  z_sorted : mg "sorted" = none
  z_sum : mg "sum" = none
  z_tuple : mg "tuple" = none
  z_zip : mg "zip" = none
  c_MOST_COLUMNS : ∃ t, mg "MOST_COLUMNS" = some (.int 3 t)
  c_MOST_LACINGS : ∃ t, mg "MOST_LACINGS" = some (.int 400 t)
  c_MOST_LETTERS : ∃ t, mg "MOST_LETTERS" = some (.int 8 t)
  c_MOST_POWER : ∃ t, mg "MOST_POWER" = some (.int 8 t)
section
variable {P : Program} {w : World} {K : PySem.W.Frag} {mg : Str → Option Value} {base : Heap} {a__law_draw a_is_integer a_is_count a_is_count_to a_need_columns a_is_letter_to a_is_word a_is_word_to a_need_word a_both_letters a_how_many a__need_many a_lacings a_laced a__next_line a__with_letter a__law_ways a__law_paired a__law_due a__law_right : Addr}
abbrev s_is_integer : Stmt := top 9
theorem sc_is_integer : FnScope ["value"] ["value"] (defScope s_is_integer) := ⟨rfl, rfl, rfl, by decide +kernel, rfl, by decide +kernel, by decide +kernel⟩
def m_is_integer : Rho → T Out := (sRet (eAnd (eUn (isD .int) (eVar 0)) (eNot (eUn (isD .bool) (eVar 0)))))
def f_is_integer : List D → T D := runB 1 m_is_integer
theorem g_is_integer {d_is_integer : FuncData} (F : Fun K "is_integer" "is_integer" s_is_integer a_is_integer d_is_integer) (TX : Txt K mg a__law_draw a_is_integer a_is_count a_is_count_to a_need_columns a_is_letter_to a_is_word a_is_word_to a_need_word a_both_letters a_how_many a__need_many a_lacings a_laced a__next_line a__with_letter a__law_ways a__law_paired a__law_due a__law_right)   : FnOk P w K mg base CX0 1 a_is_integer d_is_integer ["value"] (spD K P w 1 f_is_integer) := by
  have nd := sc_is_integer.nd
  refine fn_ok (n := 1) (p := 1) (m := m_is_integer) (k := 0) F sc_is_integer rfl rfl rfl (fun cdv A outer s H E hr => ?_)
  exact (b_one (ss_ret (s_and (s_isinst (k := .int) TX.z_isinstance TX.z_int (by decide +kernel) (sv 0)) (s_one (s_not (s_isinst (k := .bool) TX.z_isinstance TX.z_bool (by decide +kernel) (sv 0)))))))
abbrev s_is_count : Stmt := top 10
theorem sc_is_count : FnScope ["value"] ["value"] (defScope s_is_count) := ⟨rfl, rfl, rfl, by decide +kernel, rfl, by decide +kernel, by decide +kernel⟩
def m_is_count : Rho → T Out := (sRet (eAnd (eCall 1 f_is_integer (aCons (eVar 0) aNil)) (eBin opGe (eVar 0) (eC (.int 0)))))
def f_is_count : List D → T D := runB 1 m_is_count
theorem g_is_count {d_is_integer d_is_count : FuncData} (F : Fun K "is_count" "is_count" s_is_count a_is_count d_is_count) (TX : Txt K mg a__law_draw a_is_integer a_is_count a_is_count_to a_need_columns a_is_letter_to a_is_word a_is_word_to a_need_word a_both_letters a_how_many a__need_many a_lacings a_laced a__next_line a__with_letter a__law_ways a__law_paired a__law_due a__law_right) (G_is_integer : FnOk P w K mg base CX0 1 a_is_integer d_is_integer ["value"] (spD K P w 1 f_is_integer)) (B_is_integer : Binds K d_is_integer ["value"] []) : FnOk P w K mg base CX0 2 a_is_count d_is_count ["value"] (spD K P w 1 f_is_count) := by
  have nd := sc_is_count.nd
  refine fn_ok (n := 1) (p := 1) (m := m_is_count) (k := 1) F sc_is_count rfl rfl rfl (fun cdv A outer s H E hr => ?_)
  exact (b_one (ss_ret (s_and (s_call G_is_integer (hr.mono (by decide)) TX.m_is_integer TX.k_is_integer B_is_integer (sa_cons (sv 0) sa_nil)) (s_one (s_cmp os_ge (sv 0) s_int (nomark _))))))
abbrev s_is_count_to : Stmt := top 11
theorem sc_is_count_to : FnScope ["value", "most"] ["value", "most"] (defScope s_is_count_to) := ⟨rfl, rfl, rfl, by decide +kernel, rfl, by decide +kernel, by decide +kernel⟩
def m_is_count_to : Rho → T Out := (sRet (eAnd (eCall 1 f_is_count (aCons (eVar 0) aNil)) (eBin opLe (eVar 0) (eVar 1))))
def f_is_count_to : List D → T D := runB 2 m_is_count_to
theorem g_is_count_to {d_is_count d_is_count_to : FuncData} (F : Fun K "is_count_to" "is_count_to" s_is_count_to a_is_count_to d_is_count_to) (TX : Txt K mg a__law_draw a_is_integer a_is_count a_is_count_to a_need_columns a_is_letter_to a_is_word a_is_word_to a_need_word a_both_letters a_how_many a__need_many a_lacings a_laced a__next_line a__with_letter a__law_ways a__law_paired a__law_due a__law_right) (G_is_count : FnOk P w K mg base CX0 2 a_is_count d_is_count ["value"] (spD K P w 1 f_is_count)) (B_is_count : Binds K d_is_count ["value"] []) : FnOk P w K mg base CX0 3 a_is_count_to d_is_count_to ["value", "most"] (spD K P w 2 f_is_count_to) := by
  have nd := sc_is_count_to.nd
  refine fn_ok (n := 2) (p := 2) (m := m_is_count_to) (k := 2) F sc_is_count_to rfl rfl rfl (fun cdv A outer s H E hr => ?_)
  exact (b_one (ss_ret (s_and (s_call G_is_count (hr.mono (by decide)) TX.m_is_count TX.k_is_count B_is_count (sa_cons (sv 0) sa_nil)) (s_one (s_cmp os_le (sv 0) (sv 1) (nomark _))))))
abbrev s_need_columns : Stmt := top 12
theorem sc_need_columns : FnScope ["columns"] ["columns"] (defScope s_need_columns) := ⟨rfl, rfl, rfl, by decide +kernel, rfl, by decide +kernel, by decide +kernel⟩
def m_need_columns : Rho → T Out := (sIf (tNot' (eTest (eCall 2 f_is_count_to (aCons (eVar 0) (aCons (eC (.int 3)) aNil))))) sFail bNil)
def f_need_columns : List D → T D := runB 1 m_need_columns
theorem g_need_columns {d_is_count_to d_need_columns : FuncData} (F : Fun K "need_columns" "need_columns" s_need_columns a_need_columns d_need_columns) (TX : Txt K mg a__law_draw a_is_integer a_is_count a_is_count_to a_need_columns a_is_letter_to a_is_word a_is_word_to a_need_word a_both_letters a_how_many a__need_many a_lacings a_laced a__next_line a__with_letter a__law_ways a__law_paired a__law_due a__law_right) (G_is_count_to : FnOk P w K mg base CX0 3 a_is_count_to d_is_count_to ["value", "most"] (spD K P w 2 f_is_count_to)) (B_is_count_to : Binds K d_is_count_to ["value", "most"] []) : FnOk P w K mg base CX0 4 a_need_columns d_need_columns ["columns"] (spD K P w 1 f_need_columns) := by
  have nd := sc_need_columns.nd
  refine fn_ok (n := 1) (p := 1) (m := m_need_columns) (k := 3) F sc_need_columns rfl rfl rfl (fun cdv A outer s H E hr => ?_)
  exact (b_one (ss_if (st_not (st_val (s_call G_is_count_to (hr.mono (by decide)) TX.m_is_count_to TX.k_is_count_to B_is_count_to (sa_cons (sv 0) (sa_cons (s_globI TX.c_MOST_COLUMNS) sa_nil))))) (b_one ss_fail) b_nil))
abbrev s_is_letter_to : Stmt := top 16
theorem sc_is_letter_to : FnScope ["columns", "value", "most", "power"] ["columns", "value", "most"] (defScope s_is_letter_to) := ⟨rfl, rfl, rfl, by decide +kernel, rfl, by decide +kernel, by decide +kernel⟩
def m_is_letter_to : Rho → T Out := (bSeq (sIf (tOr' (tNot' (eTest (eUn (isD .tuple) (eVar 1)))) (eTest (eBin opNe (eCa bLen (aCons (eVar 1) aNil)) (eVar 0)))) (sRet (eC (.bl false))) bNil) (sRet (eCa bAll (aCons (eL (lComp [3] (iTp (eVar 1)) (gNm 3) yesT (eCall 2 f_is_count_to (aCons (eVar 3) (aCons (eVar 2) aNil))))) aNil))))
def f_is_letter_to : List D → T D := runB 4 m_is_letter_to
theorem g_is_letter_to {d_is_count_to d_is_letter_to : FuncData} (F : Fun K "is_letter_to" "is_letter_to" s_is_letter_to a_is_letter_to d_is_letter_to) (TX : Txt K mg a__law_draw a_is_integer a_is_count a_is_count_to a_need_columns a_is_letter_to a_is_word a_is_word_to a_need_word a_both_letters a_how_many a__need_many a_lacings a_laced a__next_line a__with_letter a__law_ways a__law_paired a__law_due a__law_right) (G_is_count_to : FnOk P w K mg base CX0 3 a_is_count_to d_is_count_to ["value", "most"] (spD K P w 2 f_is_count_to)) (B_is_count_to : Binds K d_is_count_to ["value", "most"] []) : FnOk P w K mg base CX0 4 a_is_letter_to d_is_letter_to ["columns", "value", "most"] (spD K P w 3 f_is_letter_to) := by
  have nd := sc_is_letter_to.nd
  refine fn_ok (n := 4) (p := 3) (m := m_is_letter_to) (k := 3) F sc_is_letter_to rfl rfl rfl (fun cdv A outer s H E hr => ?_)
  exact (b_cons (ss_if (st_w (sw_or (st_not (st_val (s_isinst (k := .tuple) TX.z_isinstance TX.z_tuple (by decide +kernel) (sv 1)))) (sw_or1 (st_cmp (os_ne hr.units) (s_callB cs_len TX.z_len (by decide +kernel) (sa_cons (sv 1) sa_nil)) (sv 0) (nomark _))))) (b_one (ss_ret s_bl)) b_nil) (b_one (ss_ret (s_callB (cs_all rfl) TX.z_all (by decide +kernel) (sa_cons (s_ofL (sl_comp [("power", 3)] rfl rfl nd (blkOk_by (N := ["columns", "value", "most", "power"]) (sc := defScope s_is_letter_to) (by decide +kernel)) (si_tup (sv 1)) (fun _ _ _ _ _ => (gw_name nd (by decide))) (fun _ _ _ _ _ => ts_nil) (fun _ _ _ _ _ => (s_call G_is_count_to (hr.mono (by decide)) TX.m_is_count_to TX.k_is_count_to B_is_count_to (sa_cons (sv 3) (sa_cons (sv 2) sa_nil)))))) sa_nil)))))
abbrev s_is_word_to : Stmt := top 18
theorem sc_is_word_to : FnScope ["columns", "value", "most", "letter"] ["columns", "value", "most"] (defScope s_is_word_to) := ⟨rfl, rfl, rfl, by decide +kernel, rfl, by decide +kernel, by decide +kernel⟩
def m_is_word_to : Rho → T Out := (bSeq (sIf (tOr' (tNot' (eTest (eUn (isD .tuple) (eVar 1)))) (eTest (eBin opGt (eCa bLen (aCons (eVar 1) aNil)) (eC (.int 8))))) (sRet (eC (.bl false))) bNil) (sRet (eCa bAll (aCons (eL (lComp [3] (iTp (eVar 1)) (gNm 3) yesT (eCall 3 f_is_letter_to (aCons (eVar 0) (aCons (eVar 3) (aCons (eVar 2) aNil)))))) aNil))))
def f_is_word_to : List D → T D := runB 4 m_is_word_to
theorem g_is_word_to {d_is_letter_to d_is_word_to : FuncData} (F : Fun K "is_word_to" "is_word_to" s_is_word_to a_is_word_to d_is_word_to) (TX : Txt K mg a__law_draw a_is_integer a_is_count a_is_count_to a_need_columns a_is_letter_to a_is_word a_is_word_to a_need_word a_both_letters a_how_many a__need_many a_lacings a_laced a__next_line a__with_letter a__law_ways a__law_paired a__law_due a__law_right) (G_is_letter_to : FnOk P w K mg base CX0 4 a_is_letter_to d_is_letter_to ["columns", "value", "most"] (spD K P w 3 f_is_letter_to)) (B_is_letter_to : Binds K d_is_letter_to ["columns", "value", "most"] []) : FnOk P w K mg base CX0 5 a_is_word_to d_is_word_to ["columns", "value", "most"] (spD K P w 3 f_is_word_to) := by
  have nd := sc_is_word_to.nd
  refine fn_ok (n := 4) (p := 3) (m := m_is_word_to) (k := 4) F sc_is_word_to rfl rfl rfl (fun cdv A outer s H E hr => ?_)
  exact (b_cons (ss_if (st_w (sw_or (st_not (st_val (s_isinst (k := .tuple) TX.z_isinstance TX.z_tuple (by decide +kernel) (sv 1)))) (sw_or1 (st_cmp os_gt (s_callB cs_len TX.z_len (by decide +kernel) (sa_cons (sv 1) sa_nil)) (s_globI TX.c_MOST_LETTERS) (nomark _))))) (b_one (ss_ret s_bl)) b_nil) (b_one (ss_ret (s_callB (cs_all rfl) TX.z_all (by decide +kernel) (sa_cons (s_ofL (sl_comp [("letter", 3)] rfl rfl nd (blkOk_by (N := ["columns", "value", "most", "letter"]) (sc := defScope s_is_word_to) (by decide +kernel)) (si_tup (sv 1)) (fun _ _ _ _ _ => (gw_name nd (by decide))) (fun _ _ _ _ _ => ts_nil) (fun _ _ _ _ _ => (s_call G_is_letter_to (hr.mono (by decide)) TX.m_is_letter_to TX.k_is_letter_to B_is_letter_to (sa_cons (sv 0) (sa_cons (sv 3) (sa_cons (sv 2) sa_nil))))))) sa_nil)))))
abbrev s_is_word : Stmt := top 17
theorem sc_is_word : FnScope ["columns", "value"] ["columns", "value"] (defScope s_is_word) := ⟨rfl, rfl, rfl, by decide +kernel, rfl, by decide +kernel, by decide +kernel⟩
def m_is_word : Rho → T Out := (bSeq (sExpr (eCall 1 f_need_columns (aCons (eVar 0) aNil))) (sRet (eCall 3 f_is_word_to (aCons (eVar 0) (aCons (eVar 1) (aCons (eC (.int 8)) aNil))))))
def f_is_word : List D → T D := runB 2 m_is_word
theorem g_is_word {d_is_word_to d_need_columns d_is_word : FuncData} (F : Fun K "is_word" "is_word" s_is_word a_is_word d_is_word) (TX : Txt K mg a__law_draw a_is_integer a_is_count a_is_count_to a_need_columns a_is_letter_to a_is_word a_is_word_to a_need_word a_both_letters a_how_many a__need_many a_lacings a_laced a__next_line a__with_letter a__law_ways a__law_paired a__law_due a__law_right) (G_is_word_to : FnOk P w K mg base CX0 5 a_is_word_to d_is_word_to ["columns", "value", "most"] (spD K P w 3 f_is_word_to)) (G_need_columns : FnOk P w K mg base CX0 4 a_need_columns d_need_columns ["columns"] (spD K P w 1 f_need_columns)) (B_is_word_to : Binds K d_is_word_to ["columns", "value", "most"] []) (B_need_columns : Binds K d_need_columns ["columns"] []) : FnOk P w K mg base CX0 6 a_is_word d_is_word ["columns", "value"] (spD K P w 2 f_is_word) := by
  have nd := sc_is_word.nd
  refine fn_ok (n := 2) (p := 2) (m := m_is_word) (k := 5) F sc_is_word rfl rfl rfl (fun cdv A outer s H E hr => ?_)
  exact (b_cons (ss_expr (s_call G_need_columns (hr.mono (by decide)) TX.m_need_columns TX.k_need_columns B_need_columns (sa_cons (sv 0) sa_nil))) (b_one (ss_ret (s_call G_is_word_to (hr.mono (by decide)) TX.m_is_word_to TX.k_is_word_to B_is_word_to (sa_cons (sv 0) (sa_cons (sv 1) (sa_cons (s_globI TX.c_MOST_POWER) sa_nil)))))))
abbrev s_need_word : Stmt := top 19
theorem sc_need_word : FnScope ["columns", "word"] ["columns", "word"] (defScope s_need_word) := ⟨rfl, rfl, rfl, by decide +kernel, rfl, by decide +kernel, by decide +kernel⟩
def m_need_word : Rho → T Out := (sIf (tNot' (eTest (eCall 2 f_is_word (aCons (eVar 0) (aCons (eVar 1) aNil))))) sFail bNil)
def f_need_word : List D → T D := runB 2 m_need_word
theorem g_need_word {d_is_word d_need_word : FuncData} (F : Fun K "need_word" "need_word" s_need_word a_need_word d_need_word) (TX : Txt K mg a__law_draw a_is_integer a_is_count a_is_count_to a_need_columns a_is_letter_to a_is_word a_is_word_to a_need_word a_both_letters a_how_many a__need_many a_lacings a_laced a__next_line a__with_letter a__law_ways a__law_paired a__law_due a__law_right) (G_is_word : FnOk P w K mg base CX0 6 a_is_word d_is_word ["columns", "value"] (spD K P w 2 f_is_word)) (B_is_word : Binds K d_is_word ["columns", "value"] []) : FnOk P w K mg base CX0 7 a_need_word d_need_word ["columns", "word"] (spD K P w 2 f_need_word) := by
  have nd := sc_need_word.nd
  refine fn_ok (n := 2) (p := 2) (m := m_need_word) (k := 6) F sc_need_word rfl rfl rfl (fun cdv A outer s H E hr => ?_)
  exact (b_one (ss_if (st_not (st_val (s_call G_is_word (hr.mono (by decide)) TX.m_is_word TX.k_is_word B_is_word (sa_cons (sv 0) (sa_cons (sv 1) sa_nil))))) (b_one ss_fail) b_nil))
abbrev s_both_letters : Stmt := top 20
theorem sc_both_letters : FnScope ["letter", "other", "power", "more"] ["letter", "other"] (defScope s_both_letters) := ⟨rfl, rfl, rfl, by decide +kernel, rfl, by decide +kernel, by decide +kernel⟩
def m_both_letters : Rho → T Out := (sRet (eCa bTuple (aCons (eL (lComp [2, 3] (iRg zipT (aCons (eVar 0) (aCons (eVar 1) aNil))) (gTp 2 (gsCons (gNm 2) (gsCons (gNm 3) gsNil))) yesT (eBin opAdd (eVar 2) (eVar 3)))) aNil)))
def f_both_letters : List D → T D := runB 4 m_both_letters
theorem g_both_letters {d_both_letters : FuncData} (F : Fun K "both_letters" "both_letters" s_both_letters a_both_letters d_both_letters) (TX : Txt K mg a__law_draw a_is_integer a_is_count a_is_count_to a_need_columns a_is_letter_to a_is_word a_is_word_to a_need_word a_both_letters a_how_many a__need_many a_lacings a_laced a__next_line a__with_letter a__law_ways a__law_paired a__law_due a__law_right)   : FnOk P w K mg base CX0 1 a_both_letters d_both_letters ["letter", "other"] (spD K P w 2 f_both_letters) := by
  have nd := sc_both_letters.nd
  refine fn_ok (n := 4) (p := 2) (m := m_both_letters) (k := 0) F sc_both_letters rfl rfl rfl (fun cdv A outer s H E hr => ?_)
  exact (b_one (ss_ret (s_callTy cs_tuple TX.z_tuple (by decide +kernel) (sa_cons (s_ofL (sl_comp [("power", 2), ("more", 3)] rfl rfl nd (blkOk_by (N := ["letter", "other", "power", "more"]) (sc := defScope s_both_letters) (by decide +kernel)) (si_zipT TX.z_zip (sa_cons (sv 0) (sa_cons (sv 1) sa_nil))) (fun _ _ _ _ _ => (gw_tup rfl (gsw_cons (gw_name nd (by decide)) (gsw_cons (gw_name nd (by decide)) gsw_nil)))) (fun _ _ _ _ _ => ts_nil) (fun _ _ _ _ _ => (s_bin os_add (sv 2) (sv 3))))) sa_nil))))
abbrev s__need_many : Stmt := top 24
theorem sc__need_many : FnScope ["many"] ["many"] (defScope s__need_many) := ⟨rfl, rfl, rfl, by decide +kernel, rfl, by decide +kernel, by decide +kernel⟩
def m__need_many : Rho → T Out := (sIf (tNot' (eTest (eCall 2 f_is_count_to (aCons (eVar 0) (aCons (eC (.int 8)) aNil))))) sFail bNil)
def f__need_many : List D → T D := runB 1 m__need_many
theorem g__need_many {d_is_count_to d__need_many : FuncData} (F : Fun K "_need_many" "_need_many" s__need_many a__need_many d__need_many) (TX : Txt K mg a__law_draw a_is_integer a_is_count a_is_count_to a_need_columns a_is_letter_to a_is_word a_is_word_to a_need_word a_both_letters a_how_many a__need_many a_lacings a_laced a__next_line a__with_letter a__law_ways a__law_paired a__law_due a__law_right) (G_is_count_to : FnOk P w K mg base CX0 3 a_is_count_to d_is_count_to ["value", "most"] (spD K P w 2 f_is_count_to)) (B_is_count_to : Binds K d_is_count_to ["value", "most"] []) : FnOk P w K mg base CX0 4 a__need_many d__need_many ["many"] (spD K P w 1 f__need_many) := by
  have nd := sc__need_many.nd
  refine fn_ok (n := 1) (p := 1) (m := m__need_many) (k := 3) F sc__need_many rfl rfl rfl (fun cdv A outer s H E hr => ?_)
  exact (b_one (ss_if (st_not (st_val (s_call G_is_count_to (hr.mono (by decide)) TX.m_is_count_to TX.k_is_count_to B_is_count_to (sa_cons (sv 0) (sa_cons (s_globI TX.c_MOST_LETTERS) sa_nil))))) (b_one ss_fail) b_nil))
abbrev s_how_many : Stmt := top 23
theorem sc_how_many : FnScope ["many", "other", "ways", "_", "further", "at"] ["many", "other"] (defScope s_how_many) := ⟨rfl, rfl, rfl, by decide +kernel, rfl, by decide +kernel, by decide +kernel⟩
def m_how_many : Rho → T Out := (bSeq (sExpr (eCall 1 f__need_many (aCons (eVar 0) aNil))) (bSeq (sExpr (eCall 1 f__need_many (aCons (eVar 1) aNil))) (bSeq (sOwn 2 (lComp [3] (iRg rng1 (aCons (eBin opAdd (eVar 1) (eC (.int 1))) aNil)) (gNm 3) yesT (eC (.int 1)))) (bFreeze 2 (bSeq (sFor (iRg rng1 (aCons (eVar 0) aNil)) (gNm 3) (bSeq (sOwn 4 (lLst (aCons (eC (.int 1)) aNil))) (bSeq (sFor (iRg rng1 (aCons (eVar 1) aNil)) (gNm 5) (sApp 4 (eBin opAdd (eBin opAdd (ixOwn 4 (eVar 5)) (eBin ixD (eVar 2) (eVar 5))) (eBin ixD (eVar 2) (eBin opAdd (eVar 5) (eC (.int 1))))))) (bFreeze 4 (sSet 2 (eVar 4)))))) (sRet (eBin ixD (eVar 2) (eUn uNeg (eC (.int 1))))))))))
def f_how_many : List D → T D := runB 6 m_how_many
theorem g_how_many {d__need_many d_how_many : FuncData} (F : Fun K "how_many" "how_many" s_how_many a_how_many d_how_many) (TX : Txt K mg a__law_draw a_is_integer a_is_count a_is_count_to a_need_columns a_is_letter_to a_is_word a_is_word_to a_need_word a_both_letters a_how_many a__need_many a_lacings a_laced a__next_line a__with_letter a__law_ways a__law_paired a__law_due a__law_right) (G__need_many : FnOk P w K mg base CX0 4 a__need_many d__need_many ["many"] (spD K P w 1 f__need_many)) (B__need_many : Binds K d__need_many ["many"] []) : FnOk P w K mg base CX0 5 a_how_many d_how_many ["many", "other"] (spD K P w 2 f_how_many) := by
  have nd := sc_how_many.nd
  refine fn_ok (n := 6) (p := 2) (m := m_how_many) (k := 4) F sc_how_many rfl rfl rfl (fun cdv A outer s H E hr => ?_)
  exact (b_cons (ss_expr (s_call G__need_many (hr.mono (by decide)) TX.m__need_many TX.k__need_many B__need_many (sa_cons (sv 0) sa_nil))) (b_cons (ss_expr (s_call G__need_many (hr.mono (by decide)) TX.m__need_many TX.k__need_many B__need_many (sa_cons (sv 1) sa_nil))) (b_cons (ss_ownLc (i := 2) [("_", 3)] rfl rfl nd (blkOk_by (N := ["many", "other", "ways", "_", "further", "at"]) (sc := defScope s_how_many) (by decide +kernel)) (si_range1 TX.z_range (sa_cons (s_bin os_add (sv 1) s_int) sa_nil)) (fun _ _ _ _ _ => (gw_name nd (by decide))) (fun _ _ _ _ _ => ts_nil) (fun _ _ _ _ _ => s_int) (sw_true rfl rfl rfl (by decide +kernel))) (b_freeze 2 (b_cons (ss_for PassesOwn.never rfl (si_range1 TX.z_range (sa_cons (sv 0) sa_nil)) (g_name nd) (b_cons (ss_own nd (sl_lst (sa_cons s_int sa_nil))) (b_cons (ss_for PassesOwn.never rfl (si_range1 TX.z_range (sa_cons (sv 1) sa_nil)) (g_name nd) (b_one (ss_app (s_bin os_add (s_bin os_add (s_ixOwn 4 (sv 5) (fun _ _ => rfl)) (s_ix (sv 2) (sv 5) (fun _ _ => rfl))) (s_ix (sv 2) (s_bin os_add (sv 5) s_int) (fun _ _ => rfl)))))) (b_freeze 4 (b_one (ss_set nd (sv 4))))))) (b_one (ss_ret (s_ix (sv 2) (s_neg s_int) (fun _ _ => rfl)))))))))
abbrev s__with_letter : Stmt := top 28
theorem sc__with_letter : FnScope ["ways_and_letters", "found", "ways", "letter", "lacing", "many", "longer"] ["ways_and_letters"] (defScope s__with_letter) := ⟨rfl, rfl, rfl, by decide +kernel, rfl, by decide +kernel, by decide +kernel⟩
def m__with_letter : Rho → T Out := (bSeq (sOwnD 1) (bSeq (sFor (iLst (eVar 0)) (gTp 2 (gsCons (gNm 2) (gsCons (gNm 3) gsNil))) (sFor (iItems (eVar 2)) (gTp 2 (gsCons (gNm 4) (gsCons (gNm 5) gsNil))) (bSeq (sSet 6 (eBin opAdd (eVar 4) (eTup (aCons (eVar 3) aNil)))) (sPut 1 (eVar 6) (eBin opAdd (getOwn 1 (eVar 6) (eC (.int 0))) (eVar 5)))))) (bFreezeD 1 (sRet (eVar 1)))))
def f__with_letter : List D → T D := runB 7 m__with_letter
theorem g__with_letter {d__with_letter : FuncData} (F : Fun K "_with_letter" "_with_letter" s__with_letter a__with_letter d__with_letter) (TX : Txt K mg a__law_draw a_is_integer a_is_count a_is_count_to a_need_columns a_is_letter_to a_is_word a_is_word_to a_need_word a_both_letters a_how_many a__need_many a_lacings a_laced a__next_line a__with_letter a__law_ways a__law_paired a__law_due a__law_right)   : FnOk P w K mg base CX0 1 a__with_letter d__with_letter ["ways_and_letters"] (spD K P w 1 f__with_letter) := by
  have nd := sc__with_letter.nd
  refine fn_ok (n := 7) (p := 1) (m := m__with_letter) (k := 0) F sc__with_letter rfl rfl rfl (fun cdv A outer s H E hr => ?_)
  exact (b_cons (ss_ownD nd) (b_cons (ss_for PassesOwn.never rfl (si_list (sv 0)) (g_tup rfl (gs_cons (g_name nd) (gs_cons (g_name nd) gs_nil))) (b_one (ss_for PassesOwn.never rfl (si_items (sv 2)) (g_tup rfl (gs_cons (g_name nd) (gs_cons (g_name nd) gs_nil))) (b_cons (ss_set nd (s_bin os_add (sv 4) (s_tup (sa_cons (sv 3) sa_nil)))) (b_one (ss_put 1 hr.units (s_bin os_add (s_getOwn 1 hr.units (sv 6) s_int) (sv 5)) (sv 6))))))) (b_freezeD 1 (b_one (ss_ret (sv 1))))))
abbrev s__next_line : Stmt := top 27
theorem sc__next_line : FnScope ["line", "letter", "other", "further", "at", "its", "both"] ["line", "letter", "other"] (defScope s__next_line) := ⟨rfl, rfl, rfl, by decide +kernel, rfl, by decide +kernel, by decide +kernel⟩
def m__next_line : Rho → T Out := (bSeq (sOwn 3 (lLst (aCons (eCall 1 f__with_letter (aCons (eL (lLst (aCons (eTup (aCons (eBin ixD (eVar 0) (eC (.int 0))) (aCons (eVar 1) aNil))) aNil))) aNil)) aNil))) (bSeq (sFor (iRg enumT (aCons (eVar 2) aNil)) (gTp 2 (gsCons (gNm 4) (gsCons (gNm 5) gsNil))) (bSeq (sSet 6 (eCall 2 f_both_letters (aCons (eVar 1) (aCons (eVar 5) aNil)))) (sApp 3 (eCall 1 f__with_letter (aCons (eL (lLst (aCons (eTup (aCons (eBin ixD (eVar 0) (eBin opAdd (eVar 4) (eC (.int 1)))) (aCons (eVar 1) aNil))) (aCons (eTup (aCons (ixOwn 3 (eVar 4)) (aCons (eVar 5) aNil))) (aCons (eTup (aCons (eBin ixD (eVar 0) (eVar 4)) (aCons (eVar 6) aNil))) aNil))))) aNil))))) (bFreeze 3 (sRet (eVar 3)))))
def f__next_line : List D → T D := runB 7 m__next_line
theorem g__next_line {d__with_letter d_both_letters d__next_line : FuncData} (F : Fun K "_next_line" "_next_line" s__next_line a__next_line d__next_line) (TX : Txt K mg a__law_draw a_is_integer a_is_count a_is_count_to a_need_columns a_is_letter_to a_is_word a_is_word_to a_need_word a_both_letters a_how_many a__need_many a_lacings a_laced a__next_line a__with_letter a__law_ways a__law_paired a__law_due a__law_right) (G__with_letter : FnOk P w K mg base CX0 1 a__with_letter d__with_letter ["ways_and_letters"] (spD K P w 1 f__with_letter)) (G_both_letters : FnOk P w K mg base CX0 1 a_both_letters d_both_letters ["letter", "other"] (spD K P w 2 f_both_letters)) (B__with_letter : Binds K d__with_letter ["ways_and_letters"] []) (B_both_letters : Binds K d_both_letters ["letter", "other"] []) : FnOk P w K mg base CX0 2 a__next_line d__next_line ["line", "letter", "other"] (spD K P w 3 f__next_line) := by
  have nd := sc__next_line.nd
  refine fn_ok (n := 7) (p := 3) (m := m__next_line) (k := 1) F sc__next_line rfl rfl rfl (fun cdv A outer s H E hr => ?_)
  exact (b_cons (ss_own nd (sl_lst (sa_cons (s_call G__with_letter (hr.mono (by decide)) TX.m__with_letter TX.k__with_letter B__with_letter (sa_cons (s_ofL (sl_lst (sa_cons (s_tup (sa_cons (s_ix (sv 0) s_int (fun _ _ => rfl)) (sa_cons (sv 1) sa_nil))) sa_nil))) sa_nil)) sa_nil))) (b_cons (ss_for PassesOwn.never rfl (si_enumT TX.z_enumerate (sa_cons (sv 2) sa_nil)) (g_tup rfl (gs_cons (g_name nd) (gs_cons (g_name nd) gs_nil))) (b_cons (ss_set nd (s_call G_both_letters (hr.mono (by decide)) TX.m_both_letters TX.k_both_letters B_both_letters (sa_cons (sv 1) (sa_cons (sv 5) sa_nil)))) (b_one (ss_app (s_call G__with_letter (hr.mono (by decide)) TX.m__with_letter TX.k__with_letter B__with_letter (sa_cons (s_ofL (sl_lst (sa_cons (s_tup (sa_cons (s_ix (sv 0) (s_bin os_add (sv 4) s_int) (fun _ _ => rfl)) (sa_cons (sv 1) sa_nil))) (sa_cons (s_tup (sa_cons (s_ixOwn 3 (sv 4) (fun _ _ => rfl)) (sa_cons (sv 5) sa_nil))) (sa_cons (s_tup (sa_cons (s_ix (sv 0) (sv 4) (fun _ _ => rfl)) (sa_cons (sv 6) sa_nil))) sa_nil))))) sa_nil)))))) (b_freeze 3 (b_one (ss_ret (sv 3))))))
abbrev s_laced : Stmt := top 26
theorem sc_laced : FnScope ["word", "other", "line", "letter", "at"] ["word", "other"] (defScope s_laced) := ⟨rfl, rfl, rfl, by decide +kernel, rfl, by decide +kernel, by decide +kernel⟩
def m_laced : Rho → T Out := (bSeq (sOwn 2 (lComp [4] (iRg rng1 (aCons (eBin opAdd (eCa bLen (aCons (eVar 1) aNil)) (eC (.int 1))) aNil)) (gNm 4) yesT (eDict1 (eSl (eVar 1) oNo (oPart (eVar 4))) (eC (.int 1))))) (bFreeze 2 (bSeq (sFor (iTp (eVar 0)) (gNm 3) (sSet 2 (eCall 3 f__next_line (aCons (eVar 2) (aCons (eVar 3) (aCons (eVar 1) aNil)))))) (sRet (eBin ixD (eVar 2) (eUn uNeg (eC (.int 1))))))))
def f_laced : List D → T D := runB 5 m_laced
theorem g_laced {d__next_line d_laced : FuncData} (F : Fun K "laced" "laced" s_laced a_laced d_laced) (TX : Txt K mg a__law_draw a_is_integer a_is_count a_is_count_to a_need_columns a_is_letter_to a_is_word a_is_word_to a_need_word a_both_letters a_how_many a__need_many a_lacings a_laced a__next_line a__with_letter a__law_ways a__law_paired a__law_due a__law_right) (G__next_line : FnOk P w K mg base CX0 2 a__next_line d__next_line ["line", "letter", "other"] (spD K P w 3 f__next_line)) (B__next_line : Binds K d__next_line ["line", "letter", "other"] []) : FnOk P w K mg base CX0 3 a_laced d_laced ["word", "other"] (spD K P w 2 f_laced) := by
  have nd := sc_laced.nd
  refine fn_ok (n := 5) (p := 2) (m := m_laced) (k := 2) F sc_laced rfl rfl rfl (fun cdv A outer s H E hr => ?_)
  exact (b_cons (ss_ownLc (i := 2) [("at", 4)] rfl rfl nd (blkOk_by (N := ["word", "other", "line", "letter", "at"]) (sc := defScope s_laced) (by decide +kernel)) (si_range1 TX.z_range (sa_cons (s_bin os_add (s_callB cs_len TX.z_len (by decide +kernel) (sa_cons (sv 1) sa_nil)) s_int) sa_nil)) (fun _ _ _ _ _ => (gw_name nd (by decide))) (fun _ _ _ _ _ => ts_nil) (fun _ _ _ _ _ => (s_dict1 hr.units (s_sl (sv 1) so_no (so_some (sv 4))) s_int)) (sw_true rfl rfl rfl (by decide +kernel))) (b_freeze 2 (b_cons (ss_for PassesOwn.never rfl (si_tup (sv 0)) (g_name nd) (b_one (ss_set nd (s_call G__next_line (hr.mono (by decide)) TX.m__next_line TX.k__next_line B__next_line (sa_cons (sv 2) (sa_cons (sv 3) (sa_cons (sv 1) sa_nil))))))) (b_one (ss_ret (s_ix (sv 2) (s_neg s_int) (fun _ _ => rfl)))))))
abbrev s_lacings : Stmt := top 25
theorem sc_lacings : FnScope ["columns", "word", "other", "ways", "lacing"] ["columns", "word", "other"] (defScope s_lacings) := ⟨rfl, rfl, rfl, by decide +kernel, rfl, by decide +kernel, by decide +kernel⟩
def m_lacings : Rho → T Out := (bSeq (sExpr (eCall 2 f_need_word (aCons (eVar 0) (aCons (eVar 1) aNil)))) (bSeq (sExpr (eCall 2 f_need_word (aCons (eVar 0) (aCons (eVar 2) aNil)))) (bSeq (sIf (eTest (eBin opGt (eCall 2 f_how_many (aCons (eCa bLen (aCons (eVar 1) aNil)) (aCons (eCa bLen (aCons (eVar 2) aNil)) aNil))) (eC (.int 400)))) sFail bNil) (bSeq (sSet 3 (eCall 2 f_laced (aCons (eVar 1) (aCons (eVar 2) aNil)))) (sRet (eL (lComp [4] (iLst (eL (lCa bSortedD (aCons (eVar 3) aNil)))) (gNm 4) yesT (eTup (aCons (eVar 4) (aCons (eBin dGet (eVar 3) (eVar 4)) aNil))))))))))
def f_lacings : List D → T D := runB 5 m_lacings
theorem g_lacings {d_how_many d_laced d_need_word d_lacings : FuncData} (F : Fun K "lacings" "lacings" s_lacings a_lacings d_lacings) (TX : Txt K mg a__law_draw a_is_integer a_is_count a_is_count_to a_need_columns a_is_letter_to a_is_word a_is_word_to a_need_word a_both_letters a_how_many a__need_many a_lacings a_laced a__next_line a__with_letter a__law_ways a__law_paired a__law_due a__law_right) (G_how_many : FnOk P w K mg base CX0 5 a_how_many d_how_many ["many", "other"] (spD K P w 2 f_how_many)) (G_laced : FnOk P w K mg base CX0 3 a_laced d_laced ["word", "other"] (spD K P w 2 f_laced)) (G_need_word : FnOk P w K mg base CX0 7 a_need_word d_need_word ["columns", "word"] (spD K P w 2 f_need_word)) (B_how_many : Binds K d_how_many ["many", "other"] []) (B_laced : Binds K d_laced ["word", "other"] []) (B_need_word : Binds K d_need_word ["columns", "word"] []) : FnOk P w K mg base CX0 8 a_lacings d_lacings ["columns", "word", "other"] (spD K P w 3 f_lacings) := by
  have nd := sc_lacings.nd
  refine fn_ok (n := 5) (p := 3) (m := m_lacings) (k := 7) F sc_lacings rfl rfl rfl (fun cdv A outer s H E hr => ?_)
  exact (b_cons (ss_expr (s_call G_need_word (hr.mono (by decide)) TX.m_need_word TX.k_need_word B_need_word (sa_cons (sv 0) (sa_cons (sv 1) sa_nil)))) (b_cons (ss_expr (s_call G_need_word (hr.mono (by decide)) TX.m_need_word TX.k_need_word B_need_word (sa_cons (sv 0) (sa_cons (sv 2) sa_nil)))) (b_cons (ss_if (st_cmp os_gt (s_call G_how_many (hr.mono (by decide)) TX.m_how_many TX.k_how_many B_how_many (sa_cons (s_callB cs_len TX.z_len (by decide +kernel) (sa_cons (sv 1) sa_nil)) (sa_cons (s_callB cs_len TX.z_len (by decide +kernel) (sa_cons (sv 2) sa_nil)) sa_nil))) (s_globI TX.c_MOST_LACINGS) (nomark _)) (b_one ss_fail) b_nil) (b_cons (ss_set nd (s_call G_laced (hr.mono (by decide)) TX.m_laced TX.k_laced B_laced (sa_cons (sv 1) (sa_cons (sv 2) sa_nil)))) (b_one (ss_ret (s_ofL (sl_comp [("lacing", 4)] rfl rfl nd (blkOk_by (N := ["columns", "word", "other", "ways", "lacing"]) (sc := defScope s_lacings) (by decide +kernel)) (si_list (s_ofL (sl_callB (cs_sortedD rfl hr.units) TX.z_sorted (by decide +kernel) (sa_cons (sv 3) sa_nil)))) (fun _ _ _ _ _ => (gw_name nd (by decide))) (fun _ _ _ _ _ => ts_nil) (fun _ _ _ _ _ => (s_tup (sa_cons (sv 4) (sa_cons (s_dGet hr.units (sv 3) (sv 4) (fun _ _ => rfl)) sa_nil))))))))))))
abbrev s__law_ways : Stmt := top 32
theorem sc__law_ways : FnScope ["_law_number", "_law_many", "_law_found", "_law_at"] ["_law_number", "_law_many"] (defScope s__law_ways) := ⟨rfl, rfl, rfl, by decide +kernel, rfl, by decide +kernel, by decide +kernel⟩
def m__law_ways : Rho → T Out := (bSeq (sSet 2 (eC (.int 1))) (bSeq (sFor (iRg rng1 (aCons (eVar 1) aNil)) (gNm 3) (sSet 2 (eBin opFDiv (eBin opMulT (eVar 2) (eBin opSub (eVar 0) (eVar 3))) (eBin opAdd (eVar 3) (eC (.int 1)))))) (sRet (eVar 2))))
def f__law_ways : List D → T D := runB 4 m__law_ways
theorem g__law_ways {d__law_ways : FuncData} (F : Fun K "_law_ways" "_law_ways" s__law_ways a__law_ways d__law_ways) (TX : Txt K mg a__law_draw a_is_integer a_is_count a_is_count_to a_need_columns a_is_letter_to a_is_word a_is_word_to a_need_word a_both_letters a_how_many a__need_many a_lacings a_laced a__next_line a__with_letter a__law_ways a__law_paired a__law_due a__law_right)   : FnOk P w K mg base CX0 1 a__law_ways d__law_ways ["_law_number", "_law_many"] (spD K P w 2 f__law_ways) := by
  have nd := sc__law_ways.nd
  refine fn_ok (n := 4) (p := 2) (m := m__law_ways) (k := 0) F sc__law_ways rfl rfl rfl (fun cdv A outer s H E hr => ?_)
  exact (b_cons (ss_set nd s_int) (b_cons (ss_for PassesOwn.never rfl (si_range1 TX.z_range (sa_cons (sv 1) sa_nil)) (g_name nd) (b_one (ss_set nd (s_bin os_fdiv (s_bin os_mulT (sv 2) (s_bin os_sub (sv 0) (sv 3))) (s_bin os_add (sv 3) s_int))))) (b_one (ss_ret (sv 2)))))
abbrev s__law_paired : Stmt := top 33
theorem sc__law_paired : FnScope ["_law_one", "_law_other", "_law_pairs"] ["_law_one", "_law_other", "_law_pairs"] (defScope s__law_paired) := ⟨rfl, rfl, rfl, by decide +kernel, rfl, by decide +kernel, by decide +kernel⟩
def m__law_paired : Rho → T Out := (sRet (eBin opMulT (eCall 2 f__law_ways (aCons (eBin opSub (eBin opAdd (eVar 0) (eVar 1)) (eVar 2)) (aCons (eVar 2) aNil))) (eCall 2 f__law_ways (aCons (eBin opSub (eBin opAdd (eVar 0) (eVar 1)) (eBin opMulT (eC (.int 2)) (eVar 2))) (aCons (eBin opSub (eVar 0) (eVar 2)) aNil)))))
def f__law_paired : List D → T D := runB 3 m__law_paired
theorem g__law_paired {d__law_ways d__law_paired : FuncData} (F : Fun K "_law_paired" "_law_paired" s__law_paired a__law_paired d__law_paired) (TX : Txt K mg a__law_draw a_is_integer a_is_count a_is_count_to a_need_columns a_is_letter_to a_is_word a_is_word_to a_need_word a_both_letters a_how_many a__need_many a_lacings a_laced a__next_line a__with_letter a__law_ways a__law_paired a__law_due a__law_right) (G__law_ways : FnOk P w K mg base CX0 1 a__law_ways d__law_ways ["_law_number", "_law_many"] (spD K P w 2 f__law_ways)) (B__law_ways : Binds K d__law_ways ["_law_number", "_law_many"] []) : FnOk P w K mg base CX0 2 a__law_paired d__law_paired ["_law_one", "_law_other", "_law_pairs"] (spD K P w 3 f__law_paired) := by
  have nd := sc__law_paired.nd
  refine fn_ok (n := 3) (p := 3) (m := m__law_paired) (k := 1) F sc__law_paired rfl rfl rfl (fun cdv A outer s H E hr => ?_)
  exact (b_one (ss_ret (s_bin os_mulT (s_call G__law_ways (hr.mono (by decide)) TX.m__law_ways TX.k__law_ways B__law_ways (sa_cons (s_bin os_sub (s_bin os_add (sv 0) (sv 1)) (sv 2)) (sa_cons (sv 2) sa_nil))) (s_call G__law_ways (hr.mono (by decide)) TX.m__law_ways TX.k__law_ways B__law_ways (sa_cons (s_bin os_sub (s_bin os_add (sv 0) (sv 1)) (s_bin os_mulT s_int (sv 2))) (sa_cons (s_bin os_sub (sv 0) (sv 2)) sa_nil))))))
abbrev s__law_due : Stmt := top 34
theorem sc__law_due : FnScope ["_law_one", "_law_other", "_law_pairs"] ["_law_one", "_law_other"] (defScope s__law_due) := ⟨rfl, rfl, rfl, by decide +kernel, rfl, by decide +kernel, by decide +kernel⟩
def m__law_due : Rho → T Out := (sRet (eCa bSum (aCons (eL (lComp [2] (iRg rng1 (aCons (eBin opAdd (eCa bMin2 (aCons (eVar 0) (aCons (eVar 1) aNil))) (eC (.int 1))) aNil)) (gNm 2) yesT (eCall 3 f__law_paired (aCons (eVar 0) (aCons (eVar 1) (aCons (eVar 2) aNil)))))) aNil)))
def f__law_due : List D → T D := runB 3 m__law_due
theorem g__law_due {d__law_paired d__law_due : FuncData} (F : Fun K "_law_due" "_law_due" s__law_due a__law_due d__law_due) (TX : Txt K mg a__law_draw a_is_integer a_is_count a_is_count_to a_need_columns a_is_letter_to a_is_word a_is_word_to a_need_word a_both_letters a_how_many a__need_many a_lacings a_laced a__next_line a__with_letter a__law_ways a__law_paired a__law_due a__law_right) (G__law_paired : FnOk P w K mg base CX0 2 a__law_paired d__law_paired ["_law_one", "_law_other", "_law_pairs"] (spD K P w 3 f__law_paired)) (B__law_paired : Binds K d__law_paired ["_law_one", "_law_other", "_law_pairs"] []) : FnOk P w K mg base CX0 3 a__law_due d__law_due ["_law_one", "_law_other"] (spD K P w 2 f__law_due) := by
  have nd := sc__law_due.nd
  refine fn_ok (n := 3) (p := 2) (m := m__law_due) (k := 2) F sc__law_due rfl rfl rfl (fun cdv A outer s H E hr => ?_)
  exact (b_one (ss_ret (s_callB (cs_sum rfl) TX.z_sum (by decide +kernel) (sa_cons (s_ofL (sl_comp [("_law_pairs", 2)] rfl rfl nd (blkOk_by (N := ["_law_one", "_law_other", "_law_pairs"]) (sc := defScope s__law_due) (by decide +kernel)) (si_range1 TX.z_range (sa_cons (s_bin os_add (s_callB (cs_min2 rfl) TX.z_min (by decide +kernel) (sa_cons (sv 0) (sa_cons (sv 1) sa_nil))) s_int) sa_nil)) (fun _ _ _ _ _ => (gw_name nd (by decide))) (fun _ _ _ _ _ => ts_nil) (fun _ _ _ _ _ => (s_call G__law_paired (hr.mono (by decide)) TX.m__law_paired TX.k__law_paired B__law_paired (sa_cons (sv 0) (sa_cons (sv 1) (sa_cons (sv 2) sa_nil))))))) sa_nil))))
abbrev s__law_right : Stmt := top 35
theorem sc__law_right : FnScope ["_law_pot_here", "_law_one", "_law_bare", "_law_due_here", "_law_other", "_law_columns", "_law_pairs"] ["_law_pot_here"] (defScope s__law_right) := ⟨rfl, rfl, rfl, by decide +kernel, rfl, by decide +kernel, by decide +kernel⟩
def m__law_right : Rho → T Out := (bSeq (sFor (iRg rng1 (aCons (eC (.int 9)) aNil)) (gNm 1) (sFor (iRg rng2 (aCons (eVar 1) (aCons (eC (.int 9)) aNil))) (gNm 4) (bSeq (sSet 3 (eCall 2 f__law_due (aCons (eVar 1) (aCons (eVar 4) aNil)))) (bSeq (sIf (eTest (eBin opNe (eCa bRepr (aCons (eL (lLst (aCons (eCall 2 f_how_many (aCons (eVar 1) (aCons (eVar 4) aNil))) (aCons (eCallK 2 [1, 0] f_how_many (aCons (eVar 1) (aCons (eVar 4) aNil))) aNil)))) aNil)) (eCa bRepr (aCons (eL (lLst (aCons (eVar 3) (aCons (eVar 3) aNil)))) aNil)))) (sRet (eC (.bl false))) bNil) (sIf (tAnd' (eTest (eBin opGt (eVar 1) (eC (.int 0)))) (eTest (eBin opNe (eVar 3) (eBin opAdd (eBin opAdd (eCall 2 f_how_many (aCons (eBin opSub (eVar 1) (eC (.int 1))) (aCons (eVar 4) aNil))) (eCall 2 f_how_many (aCons (eVar 1) (aCons (eBin opSub (eVar 4) (eC (.int 1))) aNil)))) (eCall 2 f_how_many (aCons (eBin opSub (eVar 1) (eC (.int 1))) (aCons (eBin opSub (eVar 4) (eC (.int 1))) aNil))))))) (sRet (eC (.bl false))) bNil))))) (bSeq (sAsg (gTp 3 (gsCons (gNm 5) (gsCons (gNm 1) (gsCons (gNm 4) gsNil)))) (eTup (aCons (eCall 2 f__law_draw (aCons (eVar 0) (aCons (eC (.int 3)) aNil))) (aCons (eCall 2 f__law_draw (aCons (eVar 0) (aCons (eC (.int 5)) aNil))) (aCons (eCall 2 f__law_draw (aCons (eVar 0) (aCons (eC (.int 4)) aNil))) aNil))))) (bSeq (sSet 2 (eTup (aCons (eBin opMulT (eTup (aCons (eC (.int 0)) aNil)) (eVar 5)) aNil))) (bSeq (sOwn 3 (lComp [6] (iRg rng1 (aCons (eBin opAdd (eCa bMin2 (aCons (eVar 1) (aCons (eVar 4) aNil))) (eC (.int 1))) aNil)) (gNm 6) yesT (eTup (aCons (eBin opMulT (eVar 2) (eBin opSub (eBin opAdd (eVar 1) (eVar 4)) (eVar 6))) (aCons (eCall 3 f__law_paired (aCons (eVar 1) (aCons (eVar 4) (aCons (eVar 6) aNil)))) aNil))))) (bFreeze 3 (bSeq (sIf (eTest (eBin opNe (eCall 3 f_lacings (aCons (eVar 5) (aCons (eBin opMulT (eVar 2) (eVar 1)) (aCons (eBin opMulT (eVar 2) (eVar 4)) aNil)))) (eL (lCa bSorted (aCons (eVar 3) aNil))))) (sRet (eC (.bl false))) bNil) (bSeq (sIf (eTest (eBin opNe (eCall 3 f_lacings (aCons (eC (.int 1)) (aCons (eTup (aCons (eTup (aCons (eC (.int 8)) aNil)) aNil)) (aCons (eTup (aCons (eTup (aCons (eC (.int 8)) aNil)) aNil)) aNil)))) (eL (lLst (aCons (eTup (aCons (eTup (aCons (eTup (aCons (eC (.int 8)) aNil)) (aCons (eTup (aCons (eC (.int 8)) aNil)) aNil))) (aCons (eC (.int 2)) aNil))) (aCons (eTup (aCons (eTup (aCons (eTup (aCons (eC (.int 16)) aNil)) aNil)) (aCons (eC (.int 1)) aNil))) aNil)))))) (sRet (eC (.bl false))) bNil) (bSeq (sFor (iLst (eL (lLst (aCons (eTup (aCons (eC (.int 8)) (aCons (eC (.int 2)) aNil))) (aCons (eTup (aCons (eC (.int 3)) (aCons (eC (.int 6)) aNil))) aNil))))) (gTp 2 (gsCons (gNm 1) (gsCons (gNm 4) gsNil))) (bSeq (sOwn 3 (lComp [6] (iRg rng1 (aCons (eBin opAdd (eCa bMin2 (aCons (eVar 1) (aCons (eVar 4) aNil))) (eC (.int 1))) aNil)) (gNm 6) yesT (eTup (aCons (eBin opMulT (eTup (aCons (eTup aNil) aNil)) (eBin opSub (eBin opAdd (eVar 1) (eVar 4)) (eVar 6))) (aCons (eCall 3 f__law_paired (aCons (eVar 1) (aCons (eVar 4) (aCons (eVar 6) aNil)))) aNil))))) (bFreeze 3 (sIf (eTest (eBin opNe (eCall 3 f_lacings (aCons (eC (.int 0)) (aCons (eBin opMulT (eTup (aCons (eTup aNil) aNil)) (eVar 1)) (aCons (eBin opMulT (eTup (aCons (eTup aNil) aNil)) (eVar 4)) aNil)))) (eL (lCa bSorted (aCons (eVar 3) aNil))))) (sRet (eC (.bl false))) bNil)))) (sRet (eC (.bl true)))))))))))
def f__law_right : List D → T D := runB 7 m__law_right
theorem g__law_right {d__law_draw d__law_due d__law_paired d_how_many d_lacings d__law_right : FuncData} (F : Fun K "_law_right" "_law_right" s__law_right a__law_right d__law_right) (TX : Txt K mg a__law_draw a_is_integer a_is_count a_is_count_to a_need_columns a_is_letter_to a_is_word a_is_word_to a_need_word a_both_letters a_how_many a__need_many a_lacings a_laced a__next_line a__with_letter a__law_ways a__law_paired a__law_due a__law_right) (G__law_draw : FnOk P w K mg base CX0 1 a__law_draw d__law_draw ["_law_pot_here", "_law_many"] (spD K P w 2 f__law_draw)) (G__law_due : FnOk P w K mg base CX0 3 a__law_due d__law_due ["_law_one", "_law_other"] (spD K P w 2 f__law_due)) (G__law_paired : FnOk P w K mg base CX0 2 a__law_paired d__law_paired ["_law_one", "_law_other", "_law_pairs"] (spD K P w 3 f__law_paired)) (G_how_many : FnOk P w K mg base CX0 5 a_how_many d_how_many ["many", "other"] (spD K P w 2 f_how_many)) (G_lacings : FnOk P w K mg base CX0 8 a_lacings d_lacings ["columns", "word", "other"] (spD K P w 3 f_lacings)) (B__law_draw : Binds K d__law_draw ["_law_pot_here", "_law_many"] []) (B__law_due : Binds K d__law_due ["_law_one", "_law_other"] []) (B__law_paired : Binds K d__law_paired ["_law_one", "_law_other", "_law_pairs"] []) (B_how_many : Binds K d_how_many ["many", "other"] []) (BK_how_many : KBind K d_how_many ["many", "other"] ["other", "many"] [1, 0]) (B_lacings : Binds K d_lacings ["columns", "word", "other"] []) : FnG P w K mg base CX0 9 a__law_right d__law_right ["_law_pot_here"] (spD K P w 1 f__law_right) := by
  have nd := sc__law_right.nd
  refine fnG_ok (n := 7) (p := 1) (m := m__law_right) (k := 8) F sc__law_right rfl rfl rfl (fun cdv A outer s H E hr hgd => ?_)
  exact (b_cons (ss_for PassesOwn.never rfl (si_range1 TX.z_range (sa_cons s_int sa_nil)) (g_name nd) (b_one (ss_for PassesOwn.never rfl (si_range2 TX.z_range (sa_cons (sv 1) (sa_cons s_int sa_nil))) (g_name nd) (b_cons (ss_set nd (s_call G__law_due (hr.mono (by decide)) TX.m__law_due TX.k__law_due B__law_due (sa_cons (sv 1) (sa_cons (sv 4) sa_nil)))) (b_cons (ss_if (st_cmp (os_ne hr.units) (s_callB (cs_repr hgd hr.units) TX.z_repr (by decide +kernel) (sa_cons (s_ofL (sl_lst (sa_cons (s_call G_how_many (hr.mono (by decide)) TX.m_how_many TX.k_how_many B_how_many (sa_cons (sv 1) (sa_cons (sv 4) sa_nil))) (sa_cons (s_callK G_how_many (hr.mono (by decide)) TX.m_how_many TX.k_how_many BK_how_many rfl rfl (sk_cons (sv 1) (sk_cons (sv 4) sk_nil))) sa_nil)))) sa_nil)) (s_callB (cs_repr hgd hr.units) TX.z_repr (by decide +kernel) (sa_cons (s_ofL (sl_lst (sa_cons (sv 3) (sa_cons (sv 3) sa_nil)))) sa_nil)) (nomark _)) (b_one (ss_ret s_bl)) b_nil) (b_one (ss_if (st_w (sw_and (st_cmp os_gt (sv 1) s_int (nomark _)) (sw_and1 (st_cmp (os_ne hr.units) (sv 3) (s_bin os_add (s_bin os_add (s_call G_how_many (hr.mono (by decide)) TX.m_how_many TX.k_how_many B_how_many (sa_cons (s_bin os_sub (sv 1) s_int) (sa_cons (sv 4) sa_nil))) (s_call G_how_many (hr.mono (by decide)) TX.m_how_many TX.k_how_many B_how_many (sa_cons (sv 1) (sa_cons (s_bin os_sub (sv 4) s_int) sa_nil)))) (s_call G_how_many (hr.mono (by decide)) TX.m_how_many TX.k_how_many B_how_many (sa_cons (s_bin os_sub (sv 1) s_int) (sa_cons (s_bin os_sub (sv 4) s_int) sa_nil)))) (nomark _))))) (b_one (ss_ret s_bl)) b_nil))))))) (b_cons (ss_asg (s_tup (sa_cons (s_call G__law_draw (hr.mono (by decide)) TX.m__law_draw TX.k__law_draw B__law_draw (sa_cons (sv 0) (sa_cons s_int sa_nil))) (sa_cons (s_call G__law_draw (hr.mono (by decide)) TX.m__law_draw TX.k__law_draw B__law_draw (sa_cons (sv 0) (sa_cons s_int sa_nil))) (sa_cons (s_call G__law_draw (hr.mono (by decide)) TX.m__law_draw TX.k__law_draw B__law_draw (sa_cons (sv 0) (sa_cons s_int sa_nil))) sa_nil)))) (g_tup rfl (gs_cons (g_name nd) (gs_cons (g_name nd) (gs_cons (g_name nd) gs_nil))))) (b_cons (ss_set nd (s_tup (sa_cons (s_bin os_mulT (s_tup (sa_cons s_int sa_nil)) (sv 5)) sa_nil))) (b_cons (ss_ownLc (i := 3) [("_law_pairs", 6)] rfl rfl nd (blkOk_by (N := ["_law_pot_here", "_law_one", "_law_bare", "_law_due_here", "_law_other", "_law_columns", "_law_pairs"]) (sc := defScope s__law_right) (by decide +kernel)) (si_range1 TX.z_range (sa_cons (s_bin os_add (s_callB (cs_min2 rfl) TX.z_min (by decide +kernel) (sa_cons (sv 1) (sa_cons (sv 4) sa_nil))) s_int) sa_nil)) (fun _ _ _ _ _ => (gw_name nd (by decide))) (fun _ _ _ _ _ => ts_nil) (fun _ _ _ _ _ => (s_tup (sa_cons (s_bin os_mulT (sv 2) (s_bin os_sub (s_bin os_add (sv 1) (sv 4)) (sv 6))) (sa_cons (s_call G__law_paired (hr.mono (by decide)) TX.m__law_paired TX.k__law_paired B__law_paired (sa_cons (sv 1) (sa_cons (sv 4) (sa_cons (sv 6) sa_nil)))) sa_nil)))) (sw_true rfl rfl rfl (by decide +kernel))) (b_freeze 3 (b_cons (ss_if (st_cmp (os_ne hr.units) (s_call G_lacings (hr.mono (by decide)) TX.m_lacings TX.k_lacings B_lacings (sa_cons (sv 5) (sa_cons (s_bin os_mulT (sv 2) (sv 1)) (sa_cons (s_bin os_mulT (sv 2) (sv 4)) sa_nil)))) (s_ofL (sl_callB (cs_sorted hr.units) TX.z_sorted (by decide +kernel) (sa_cons (sv 3) sa_nil))) (nomark _)) (b_one (ss_ret s_bl)) b_nil) (b_cons (ss_if (st_cmp (os_ne hr.units) (s_call G_lacings (hr.mono (by decide)) TX.m_lacings TX.k_lacings B_lacings (sa_cons s_int (sa_cons (s_tup (sa_cons (s_tup (sa_cons s_int sa_nil)) sa_nil)) (sa_cons (s_tup (sa_cons (s_tup (sa_cons s_int sa_nil)) sa_nil)) sa_nil)))) (s_ofL (sl_lst (sa_cons (s_tup (sa_cons (s_tup (sa_cons (s_tup (sa_cons s_int sa_nil)) (sa_cons (s_tup (sa_cons s_int sa_nil)) sa_nil))) (sa_cons s_int sa_nil))) (sa_cons (s_tup (sa_cons (s_tup (sa_cons (s_tup (sa_cons s_int sa_nil)) sa_nil)) (sa_cons s_int sa_nil))) sa_nil)))) (nomark _)) (b_one (ss_ret s_bl)) b_nil) (b_cons (ss_for PassesOwn.never rfl (si_list (s_ofL (sl_lst (sa_cons (s_tup (sa_cons s_int (sa_cons s_int sa_nil))) (sa_cons (s_tup (sa_cons s_int (sa_cons s_int sa_nil))) sa_nil))))) (g_tup rfl (gs_cons (g_name nd) (gs_cons (g_name nd) gs_nil))) (b_cons (ss_ownLc (i := 3) [("_law_pairs", 6)] rfl rfl nd (blkOk_by (N := ["_law_pot_here", "_law_one", "_law_bare", "_law_due_here", "_law_other", "_law_columns", "_law_pairs"]) (sc := defScope s__law_right) (by decide +kernel)) (si_range1 TX.z_range (sa_cons (s_bin os_add (s_callB (cs_min2 rfl) TX.z_min (by decide +kernel) (sa_cons (sv 1) (sa_cons (sv 4) sa_nil))) s_int) sa_nil)) (fun _ _ _ _ _ => (gw_name nd (by decide))) (fun _ _ _ _ _ => ts_nil) (fun _ _ _ _ _ => (s_tup (sa_cons (s_bin os_mulT (s_tup (sa_cons (s_tup sa_nil) sa_nil)) (s_bin os_sub (s_bin os_add (sv 1) (sv 4)) (sv 6))) (sa_cons (s_call G__law_paired (hr.mono (by decide)) TX.m__law_paired TX.k__law_paired B__law_paired (sa_cons (sv 1) (sa_cons (sv 4) (sa_cons (sv 6) sa_nil)))) sa_nil)))) (sw_true rfl rfl rfl (by decide +kernel))) (b_freeze 3 (b_one (ss_if (st_cmp (os_ne hr.units) (s_call G_lacings (hr.mono (by decide)) TX.m_lacings TX.k_lacings B_lacings (sa_cons s_int (sa_cons (s_bin os_mulT (s_tup (sa_cons (s_tup sa_nil) sa_nil)) (sv 1)) (sa_cons (s_bin os_mulT (s_tup (sa_cons (s_tup sa_nil) sa_nil)) (sv 4)) sa_nil)))) (s_ofL (sl_callB (cs_sorted hr.units) TX.z_sorted (by decide +kernel) (sa_cons (sv 3) sa_nil))) (nomark _)) (b_one (ss_ret s_bl)) b_nil))))) (b_one (ss_ret s_bl))))))))))
end
end Pd

namespace Pd
open PySem L2
theorem iteT' {b : Bool} {p q : Prop} (h : b = true) (x : p) : if b = true then p else q := by rw [if_pos h]; exact x
theorem iteF' {b : Bool} {p q : Prop} (h : b = false) (x : q) : if b = true then p else q := by rw [if_neg (by rw [h]; exact Bool.false_ne_true)]; exact x
section
variable {P : Program} {w : World} {K : PySem.W.Frag} {mg : Str → Option Value} {base : Heap} {a_draw : Addr}
abbrev s_draw : Stmt := top 31
theorem sc_draw : FnScope ["_law_pot_here", "_law_many", "_law_digit"] ["_law_pot_here", "_law_many"] (defScope s_draw) := ⟨rfl, rfl, rfl, by decide +kernel, rfl, by decide +kernel, by decide +kernel⟩
theorem g_draw {d_draw : FuncData} (F : Fun K "_law_draw" "_law_draw" s_draw a_draw d_draw) (zd : mg "divmod" = none) (zi : mg "int" = none) : FnOk P w K mg base CX0 1 a_draw d_draw ["_law_pot_here", "_law_many"] (spD K P w 2 f__law_draw) := by
  have nd := sc_draw.nd
  refine F.ok (k := 0) sc_draw (fun vs H Q E h => ?_) (fun cdv A outer s H vs Q E hr h => ⟨_, pss_cons (ps_if (pt_cmpR op_gt (pe_ix ix_list (pv 0) pe_int (fun _ _ => rfl)) pe_int (nomark _))
    (pss_cons (ps_asg (pe_callB call_divmod rfl zd (by decide +kernel) (pa_cons (pe_ix ix_list (pv 0) pe_int (fun _ _ => rfl)) (pa_cons (pv 1) pa_nil))) (pg_tup rfl (pgs_cons (pg_sub (pv 0) pe_int set_list) (pgs_cons (pg_name (i := 2) nd rfl (.inl rfl)) pgs_nil)))) (pss_one (ps_ret (pv 2)))) pss_nil)
    (pss_cons (ps_asg (pe_op op_mod (pe_callTy call_int1 rfl zi (by decide +kernel) (pa_cons (pe_op op_add (pe_op op_mul (pe_ix ix_list (pv 0) pe_int (fun _ _ => rfl)) pe_int) pe_int) pa_nil)) pe_int) (pg_sub (pv 0) pe_int set_list))
    (pss_one (ps_ret (pe_op op_mod (pe_callTy call_int1 rfl zi (by decide +kernel) (pa_cons (pe_op op_fdiv (pe_op op_mod (pe_callTy call_int1 rfl zi (by decide +kernel) (pa_cons (pe_op op_mul (pe_ix ix_list (pv 0) pe_int (fun _ _ => rfl)) (pe_ix ix_list (pv 0) pe_int (fun _ _ => rfl))) pa_nil)) pe_int) pe_int) pa_nil)) (pv 1))))), ?_⟩)
  · obtain ⟨π, N, ds, hn, r, hl, _⟩ := h
    exact hl
  · obtain ⟨π, N, ds, hn, r, hl, hall⟩ := h
    unfold f__law_draw at hall
    split at hall
    · rename_i n
      cases r with
      | cons r1 r =>
      cases r with
      | cons r2 r =>
      cases r
      cases r1
      cases r2
      obtain ⟨hb, hall⟩ := cond_all hall
      simp only [Bool.and_eq_true, decide_eq_true_eq] at hb
      obtain ⟨n0, n1⟩ := hb
      obtain ⟨x, y, hp, hx, hy, hy2⟩ := hn.pot
      have got : ∀ i : Int, 0 ≤ i → i < n → ∀ H', Ex π H H' → Q (.int i) H' := fun i i0 i1 H' e => by
        have q := hall i.toNat (by omega)
        have ei : ((i.toNat : Nat) : Int) = i := Int.toNat_of_nonneg i0
        have z := q (.int i) H' e
        rw [ei] at z
        exact z (.int i)
      refine ⟨_, rfl, π, _, 0, .int x, rfl, rfl, .inl (.inl hp), rfl, _, _, rfl, rfl, _, rfl, ?_⟩
      by_cases c : 0 < x
      · refine iteT' (decide_eq_true c) ?_
        refine ⟨_, rfl, π, _, 0, .int x, rfl, rfl, .inl (.inl hp), rfl, _, rfl, x, n, rfl, ⟨n0, by omega⟩, fun p pn => ?_⟩
        have ppi : p ≠ π := hn.pot.ne pn
        have h1 : upd H p (.tup [.int (x / n), .int (x % n)]) π = some (.lst [.int x, .int y]) := by rw [upd_ne ppi.symm]; exact hp
        refine ⟨p, _, rfl, .inl (.inl upd_same), rfl, _, _, rfl, ⟨_, rfl, π, _, 0, 0, rfl, rfl, h1, rfl, ?_⟩⟩
        refine ⟨_, _, rfl, ?_⟩
        show [] = [] ∧ _
        refine ⟨rfl, ?_⟩
        refine ⟨_, rfl, got (x % n) (Int.emod_nonneg x (by omega)) (Int.emod_lt_of_pos x n0) _ ⟨fun a o ne e => ?_, x / n, y, by rw [upd_same]; rfl, Int.ediv_nonneg hx (by omega), hy, hy2⟩⟩
        rw [upd_ne ne, upd_ne (ne_of_none e pn)]
        exact e
      · refine iteF' (decide_eq_false c) ?_
        have m1 : CMul y 39373 := .inl ⟨by omega, by omega⟩
        refine ⟨_, rfl, π, _, 1, .int y, rfl, rfl, .inl (.inl hp), rfl, _, _, rfl, rfl, m1, _, _, rfl, rfl, .inl ⟨_, rfl, _, _, rfl, rfl, (show (0 : Int) < 2147483587 by decide), _, rfl, π, _, 1, 1, rfl, rfl, hp, rfl, ?_⟩⟩
        have hy3 : 0 ≤ (y * 39373 + 739) % 2147483587 := Int.emod_nonneg _ (by decide)
        have hy4 : (y * 39373 + 739) % 2147483587 < 2147483587 := Int.emod_lt_of_pos _ (by decide)
        have h1 : upd H π (.lst ([.int x, .int y].set 1 (.int ((y * 39373 + 739) % 2147483587)))) π = some (.lst [.int x, .int ((y * 39373 + 739) % 2147483587)]) := upd_same
        have m2 : CMul ((y * 39373 + 739) % 2147483587) ((y * 39373 + 739) % 2147483587) := .inl ⟨by omega, by omega⟩
        refine ⟨_, rfl, π, _, 1, .int ((y * 39373 + 739) % 2147483587), rfl, rfl, .inl (.inl h1), rfl, _, rfl, π, _, 1, .int ((y * 39373 + 739) % 2147483587), rfl, rfl, .inl (.inl h1), rfl, _, _, rfl, rfl, m2, .inl ⟨_, rfl, _, _, rfl, rfl, (show (0 : Int) < 2147483563 by decide), _, _, rfl, rfl, (show CDiv _ 17 from ⟨by decide, by decide⟩), .inl ⟨_, rfl, _, rfl, _, _, rfl, rfl, n0, ?_⟩⟩⟩
        refine got _ (Int.emod_nonneg _ (by omega)) (Int.emod_lt_of_pos _ n0) _ ⟨fun a o ne e => ?_, x, ((y * 39373 + 739) % 2147483587), h1, hx, hy3, by omega⟩
        rw [upd_ne ne]
        exact e
    · exact False.elim hall
/-! the pot -/
def spPot (K : PySem.W.Frag) : Sp := fun vs H Q _ => ∃ (a : Addr) (ns : List Int) (k : Nat), vs = [.ref a, .int (k : Nat)] ∧ k < 1000 ∧ SqL K H a (ns.map V.int) ∧ ∀ (p : Addr) (x y : Int), H p = none → 0 ≤ x → 0 ≤ y → y < 2147483648 → Q (.ref p) (upd H p (.lst [.int x, .int y]))
abbrev s_pot : Stmt := top 30
theorem sc_pot : FnScope ["_law_script", "_law_k", "_law_cell"] ["_law_script", "_law_k"] (defScope s_pot) := ⟨rfl, rfl, rfl, by decide +kernel, rfl, by decide +kernel, by decide +kernel⟩
abbrev rInt1 : List V → Hp → VK → Prop := fun xs H Q => (∃ i, xs = [V.int i] ∧ Q (V.int i) H) ∨ ∃ k, xs = [V.bl k] ∧ Q (V.int (if k = true then 1 else 0)) H
def potTe : TE := tLst (tCons (tCB (fun xs H Q => ∃ i j, xs = [V.int i, V.int j] ∧ Q (V.int (if j > i then j else i)) H) (tCons (tC (V.int 0)) (tCons (tOp (rI0 fun i j => V.int (i - j)) (tVar 2) (tOp (rI CPow fun i j => V.int (i ^ j.toNat)) (tC (V.int 10)) (tC (V.int 18)))) tNil)))
  (tCons (tOp (rI0 fun i j => V.int (i + j)) (tOp (rI (fun x j => 0 < j) fun i j => V.int (i % j)) (tCB rInt1 (tCons (tOp (rI0 fun i j => V.int (i + j)) (tOp (rI0 fun i j => V.int (i + j)) (tOp (rI CMul fun i j => V.int (i * j)) (tOp (rI (fun x j => 0 < j) fun i j => V.int (i % j)) (tCB rInt1 (tCons (tVar 2) tNil)) (tC (V.int 2147483549))) (tC (V.int 48271)))
    (tOp (rI CMul fun i j => V.int (i * j)) (tC (V.int 29748)) (tVar 1))) (tC (V.int 739))) tNil)) (tC (V.int 2147483563))) (tC (V.int 1))) tNil))
theorem potTail {De : Ends} {Q : VK} {a : Addr} {k : Nat} {H : Hp} {c : Int} {Nm : List Str} (hN : Nm.length = 3) (hQ : De.rt = Q) (q : ∀ (p : Addr) (x y : Int), H p = none → 0 ≤ x → 0 ≤ y → y < 2147483648 → Q (.ref p) (upd H p (.lst [.int x, .int y]))) (hk : k < 1000) (c0 : 0 ≤ c) :
    tRet potTe De ((L2.start Nm [.ref a, .int (k : Nat)]).set 2 (some (.int c))) H := by
  subst hQ
  have e2 : ((L2.start Nm [.ref a, .int (k : Nat)]).set 2 (some (.int c)))[2]? = some (some (.int c)) := by
    rw [List.getElem?_set_self]
    unfold L2.start
    rw [List.length_append, List.length_map, List.length_replicate, hN]
    exact (by decide : 2 < 2 + (3 - 2))
  have e1 : ((L2.start Nm [.ref a, .int (k : Nat)]).set 2 (some (.int c)))[1]? = some (some (.int (k : Nat))) := rfl
  have m1 : CMul (c % 2147483549) 48271 := .inr ⟨by decide, by decide⟩
  have m2 : CMul 29748 ((k : Nat) : Int) := .inl ⟨by decide, by decide⟩
  have y0 := Int.emod_nonneg (c % 2147483549 * 48271 + 29748 * ((k : Nat) : Int) + 739) (show (2147483563 : Int) ≠ 0 by decide)
  have y1 := Int.emod_lt_of_pos (c % 2147483549 * 48271 + 29748 * ((k : Nat) : Int) + 739) (show (0 : Int) < 2147483563 by decide)
  refine ⟨_, e2, _, _, rfl, rfl, ⟨by decide, by decide, by decide⟩, _, _, rfl, rfl, _, _, rfl, _, e2, .inl ⟨_, rfl, _, _, rfl, rfl, (show (0 : Int) < 2147483549 by decide), _, _, rfl, rfl, m1, _, e1, _, _, rfl, rfl, m2, _, _, rfl, rfl, _, _, rfl, rfl, .inl ⟨_, rfl, _, _, rfl, rfl, (show (0 : Int) < 2147483563 by decide), _, _, rfl, rfl, by show 2 ≤ sizeLine; decide, fun p hp => q p _ _ hp ?_ (by omega) (by omega)⟩⟩⟩
  split <;> omega
theorem g_pot {a_pot : Addr} {d_pot : FuncData} (F : Fun K "_law_pot" "_law_pot" s_pot a_pot d_pot) (za : mg "abs" = none) (zl : mg "len" = none) (zm : mg "max" = none) (zi : mg "int" = none) : FnOk P w K mg base CX0 1 a_pot d_pot ["_law_script", "_law_k"] (spPot K) := by
  have nd := sc_pot.nd
  refine F.ok (k := 0) sc_pot (fun vs H Q E h => ?_) (fun cdv A outer s H vs Q E hr h => ⟨_, pss_cons (ps_set (i := 2) nd rfl (.inl rfl) (pe_ifExp (pt_cmpR op_lt (pv 1) (pe_callB call_len_seq rfl zl (by decide +kernel) (pa_cons (pv 0) pa_nil)) (nomark _))
    (pe_callB call_abs rfl za (by decide +kernel) (pa_cons (pe_ix ix_list (pv 0) (pv 1) (fun _ _ => rfl)) pa_nil)) (pe_op op_add (pe_op op_mul pe_int (pv 1)) pe_int)))
    (pss_one (ps_ret (pe_lst (pa_cons (pe_callB (call_max2 rfl) rfl zm (by decide +kernel) (pa_cons pe_int (pa_cons (pe_op op_sub (pv 2) (pe_op op_pow pe_int pe_int)) pa_nil)))
      (pa_cons (pe_op op_add (pe_op op_mod (pe_callTy call_int1 rfl zi (by decide +kernel) (pa_cons (pe_op op_add (pe_op op_add (pe_op op_mul (pe_op op_mod (pe_callTy call_int1 rfl zi (by decide +kernel) (pa_cons (pv 2) pa_nil)) pe_int) pe_int) (pe_op op_mul pe_int (pv 1))) pe_int) pa_nil)) pe_int) pe_int) pa_nil))))), ?_⟩)
  · obtain ⟨a, ns, k, rfl, _⟩ := h
    rfl
  · obtain ⟨a, ns, k, rfl, hk, hs, q⟩ := h
    refine ⟨_, rfl, _, rfl, a, _, rfl, .inl hs, _, _, rfl, rfl, _, rfl, ?_⟩
    have hlt : decide (((k : Nat) : Int) < ((ns.map V.int).length : Nat)) = decide (k < ns.length) := by
      rw [List.length_map]
      exact decide_eq_decide.mpr (by omega)
    rcases Nat.lt_or_ge k ns.length with c | c
    · refine iteT' (hlt.trans (decide_eq_true c)) ?_
      refine ⟨_, rfl, _, rfl, a, _, (k : Nat), _, rfl, rfl, hs, atI_cell c, _, rfl, ?_⟩
      have c0 : 0 ≤ (if cellOf ns k < 0 then -cellOf ns k else cellOf ns k) := by split <;> omega
      exact potTail (Nm := ["_law_script", "_law_k", "_law_cell"]) rfl rfl q hk c0
    · refine iteF' (hlt.trans (decide_eq_false (by omega))) ?_
      refine ⟨_, rfl, _, _, rfl, rfl, (.inl ⟨by decide, by decide⟩ : CMul 983 ((k : Nat) : Int)), _, _, rfl, rfl, ?_⟩
      have c0 : 0 ≤ 983 * ((k : Nat) : Int) + 827 := by omega
      exact potTail (Nm := ["_law_script", "_law_k", "_law_cell"]) rfl rfl q hk c0
/-! the law -/
def spL (K : PySem.W.Frag) : Sp := fun vs H Q _ => ∃ (a : Addr) (ns : List Int), vs = [.ref a] ∧ SqL K H a (ns.map V.int) ∧ ∀ H', Q (.bl true) H'
def isTrue : D → Bool
  | .bl true => true
  | _ => false
theorem isTrue_of {d : D} (h : isTrue d = true) : d = .bl true := by
  unfold isTrue at h
  split at h
  · rfl
  · cases h
theorem all_true : (f__law_right [.pot]).allB isTrue = true := by decide +kernel
abbrev s_law : Stmt := top 36
theorem sc_law : FnScope ["_law_script"] ["_law_script"] (defScope s_law) := ⟨rfl, rfl, rfl, by decide +kernel, rfl, by decide +kernel, by decide +kernel⟩
theorem g_law {a_pot a_right a_law : Addr} {d_pot d_right d_law : FuncData} (F : Fun K "law" "law" s_law a_law d_law) (mp : mg "_law_pot" = some (.ref a_pot)) (kp : PySem.W.keepIn K (.ref a_pot) = true) (mr : mg "_law_right" = some (.ref a_right)) (kr : PySem.W.keepIn K (.ref a_right) = true)
    (GP : FnOk P w K mg base CX0 1 a_pot d_pot ["_law_script", "_law_k"] (spPot K)) (BP : Binds K d_pot ["_law_script", "_law_k"] []) (GR : FnG P w K mg base CX0 9 a_right d_right ["_law_pot_here"] (spD K P w 1 f__law_right)) (BR : Binds K d_right ["_law_pot_here"] []) :
    FnG P w K mg base CX0 10 a_law d_law ["_law_script"] (spL K) := by
  refine okG (k := 9) F sc_law (fun vs H Q E h => ?_) (fun cdv A outer s H vs Q E hr hgd h => ⟨_, pss_one (ps_ret (pe_callG GR (hr.mono (by decide)) hgd mr kr BR (pa_cons (pe_call GP (hr.mono (by decide)) rfl mp kp BP .nil pass0 (pa_cons (pv 0) (pa_cons pe_int pa_nil))) pa_nil))), ?_⟩)
  · obtain ⟨a, ns, rfl, _⟩ := h
    rfl
  · obtain ⟨a, ns, rfl, hs, q⟩ := h
    refine ⟨_, rfl, a, ns, 0, rfl, by decide, hs, fun p x y hp x0 y0 y1 => ?_⟩
    refine ⟨p, fun _ => false, [.pot], ⟨⟨x, y, upd_same, x0, y0, y1⟩, rfl, fun a h => nomatch h⟩, .cons .pot .nil, rfl, T.all_mono (fun d hd v H2 e r => ?_) (T.all_of all_true)⟩
    have ed := isTrue_of hd
    subst ed
    rw [r.bool]
    exact q H2
end
end Pd

namespace Pd
open PySem L2 PySem.Spec PyProof.Rows
theorem all_mk {l : PySem.W.OpenLaw} {w : World} {K : PySem.W.Frag} {h : Heap} {mg : Str → Option Value} {fa : Addr} (X : K.In h) (G : h.Ns mainGlobals mg) (hfa : mg "law" = some (.ref fa))
    {f_is_integer : Addr} {od_is_integer an_is_integer : Option Addr} {sl_is_integer : Array (Option Value)} {oc_is_integer kV_is_integer dc_is_integer pm_is_integer cd_is_integer ct_is_integer : Value}
    {f_is_count : Addr} {od_is_count an_is_count : Option Addr} {sl_is_count : Array (Option Value)} {oc_is_count kV_is_count dc_is_count pm_is_count cd_is_count ct_is_count : Value}
    {f_is_count_to : Addr} {od_is_count_to an_is_count_to : Option Addr} {sl_is_count_to : Array (Option Value)} {oc_is_count_to kV_is_count_to dc_is_count_to pm_is_count_to cd_is_count_to ct_is_count_to : Value}
    {f_need_columns : Addr} {od_need_columns an_need_columns : Option Addr} {sl_need_columns : Array (Option Value)} {oc_need_columns kV_need_columns dc_need_columns pm_need_columns cd_need_columns ct_need_columns : Value}
    {f_is_letter_to : Addr} {od_is_letter_to an_is_letter_to : Option Addr} {sl_is_letter_to : Array (Option Value)} {oc_is_letter_to kV_is_letter_to dc_is_letter_to pm_is_letter_to cd_is_letter_to ct_is_letter_to : Value}
    {f_is_word_to : Addr} {od_is_word_to an_is_word_to : Option Addr} {sl_is_word_to : Array (Option Value)} {oc_is_word_to kV_is_word_to dc_is_word_to pm_is_word_to cd_is_word_to ct_is_word_to : Value}
    {f_is_word : Addr} {od_is_word an_is_word : Option Addr} {sl_is_word : Array (Option Value)} {oc_is_word kV_is_word dc_is_word pm_is_word cd_is_word ct_is_word : Value}
    {f_need_word : Addr} {od_need_word an_need_word : Option Addr} {sl_need_word : Array (Option Value)} {oc_need_word kV_need_word dc_need_word pm_need_word cd_need_word ct_need_word : Value}
    {f_both_letters : Addr} {od_both_letters an_both_letters : Option Addr} {sl_both_letters : Array (Option Value)} {oc_both_letters kV_both_letters dc_both_letters pm_both_letters cd_both_letters ct_both_letters : Value}
    {f__need_many : Addr} {od__need_many an__need_many : Option Addr} {sl__need_many : Array (Option Value)} {oc__need_many kV__need_many dc__need_many pm__need_many cd__need_many ct__need_many : Value}
    {f_how_many : Addr} {od_how_many an_how_many : Option Addr} {sl_how_many : Array (Option Value)} {oc_how_many kV_how_many dc_how_many pm_how_many cd_how_many ct_how_many : Value}
    {f__with_letter : Addr} {od__with_letter an__with_letter : Option Addr} {sl__with_letter : Array (Option Value)} {oc__with_letter kV__with_letter dc__with_letter pm__with_letter cd__with_letter ct__with_letter : Value}
    {f__next_line : Addr} {od__next_line an__next_line : Option Addr} {sl__next_line : Array (Option Value)} {oc__next_line kV__next_line dc__next_line pm__next_line cd__next_line ct__next_line : Value}
    {f_laced : Addr} {od_laced an_laced : Option Addr} {sl_laced : Array (Option Value)} {oc_laced kV_laced dc_laced pm_laced cd_laced ct_laced : Value}
    {f_lacings : Addr} {od_lacings an_lacings : Option Addr} {sl_lacings : Array (Option Value)} {oc_lacings kV_lacings dc_lacings pm_lacings cd_lacings ct_lacings : Value}
    {f_Lways : Addr} {od_Lways an_Lways : Option Addr} {sl_Lways : Array (Option Value)} {oc_Lways kV_Lways dc_Lways pm_Lways cd_Lways ct_Lways : Value}
    {f_Lpaired : Addr} {od_Lpaired an_Lpaired : Option Addr} {sl_Lpaired : Array (Option Value)} {oc_Lpaired kV_Lpaired dc_Lpaired pm_Lpaired cd_Lpaired ct_Lpaired : Value}
    {f_Ldue : Addr} {od_Ldue an_Ldue : Option Addr} {sl_Ldue : Array (Option Value)} {oc_Ldue kV_Ldue dc_Ldue pm_Ldue cd_Ldue ct_Ldue : Value}
    {f_Lright : Addr} {od_Lright an_Lright : Option Addr} {sl_Lright : Array (Option Value)} {oc_Lright kV_Lright dc_Lright pm_Lright cd_Lright ct_Lright : Value}
    {f_Ldraw : Addr} {od_Ldraw an_Ldraw : Option Addr} {sl_Ldraw : Array (Option Value)} {oc_Ldraw kV_Ldraw dc_Ldraw pm_Ldraw cd_Ldraw ct_Ldraw : Value}
    {f_Lpot : Addr} {od_Lpot an_Lpot : Option Addr} {sl_Lpot : Array (Option Value)} {oc_Lpot kV_Lpot dc_Lpot pm_Lpot cd_Lpot ct_Lpot : Value}
    {f_law : Addr} {od_law an_law : Option Addr} {sl_law : Array (Option Value)} {oc_law kV_law dc_law pm_law cd_law ct_law : Value}
    {t_MOST_COLUMNS : Tok}
    {t_MOST_LACINGS : Tok}
    {t_MOST_LETTERS : Tok}
    {t_MOST_POWER : Tok}
    (a_is_integer : PySem.W.nsIn K mainGlobals "is_integer" = some (some (.ref f_is_integer))) (l_is_integer : K.lookup f_is_integer = some ⟨oc_is_integer, od_is_integer, .func (PySem.W.fnOf "is_integer" "is_integer" (defArgs s_is_integer) (defBody s_is_integer) (defScope s_is_integer) .none kV_is_integer dc_is_integer pm_is_integer an_is_integer cd_is_integer ct_is_integer), sl_is_integer⟩) (c_is_integer : PySem.W.codeIn K cd_is_integer "is_integer" = true) (k_is_integer : PySem.W.keepIn K (.ref f_is_integer) = true)
    (a_is_count : PySem.W.nsIn K mainGlobals "is_count" = some (some (.ref f_is_count))) (l_is_count : K.lookup f_is_count = some ⟨oc_is_count, od_is_count, .func (PySem.W.fnOf "is_count" "is_count" (defArgs s_is_count) (defBody s_is_count) (defScope s_is_count) .none kV_is_count dc_is_count pm_is_count an_is_count cd_is_count ct_is_count), sl_is_count⟩) (c_is_count : PySem.W.codeIn K cd_is_count "is_count" = true) (k_is_count : PySem.W.keepIn K (.ref f_is_count) = true)
    (a_is_count_to : PySem.W.nsIn K mainGlobals "is_count_to" = some (some (.ref f_is_count_to))) (l_is_count_to : K.lookup f_is_count_to = some ⟨oc_is_count_to, od_is_count_to, .func (PySem.W.fnOf "is_count_to" "is_count_to" (defArgs s_is_count_to) (defBody s_is_count_to) (defScope s_is_count_to) .none kV_is_count_to dc_is_count_to pm_is_count_to an_is_count_to cd_is_count_to ct_is_count_to), sl_is_count_to⟩) (c_is_count_to : PySem.W.codeIn K cd_is_count_to "is_count_to" = true) (k_is_count_to : PySem.W.keepIn K (.ref f_is_count_to) = true)
    (a_need_columns : PySem.W.nsIn K mainGlobals "need_columns" = some (some (.ref f_need_columns))) (l_need_columns : K.lookup f_need_columns = some ⟨oc_need_columns, od_need_columns, .func (PySem.W.fnOf "need_columns" "need_columns" (defArgs s_need_columns) (defBody s_need_columns) (defScope s_need_columns) .none kV_need_columns dc_need_columns pm_need_columns an_need_columns cd_need_columns ct_need_columns), sl_need_columns⟩) (c_need_columns : PySem.W.codeIn K cd_need_columns "need_columns" = true) (k_need_columns : PySem.W.keepIn K (.ref f_need_columns) = true)
    (a_is_letter_to : PySem.W.nsIn K mainGlobals "is_letter_to" = some (some (.ref f_is_letter_to))) (l_is_letter_to : K.lookup f_is_letter_to = some ⟨oc_is_letter_to, od_is_letter_to, .func (PySem.W.fnOf "is_letter_to" "is_letter_to" (defArgs s_is_letter_to) (defBody s_is_letter_to) (defScope s_is_letter_to) .none kV_is_letter_to dc_is_letter_to pm_is_letter_to an_is_letter_to cd_is_letter_to ct_is_letter_to), sl_is_letter_to⟩) (c_is_letter_to : PySem.W.codeIn K cd_is_letter_to "is_letter_to" = true) (k_is_letter_to : PySem.W.keepIn K (.ref f_is_letter_to) = true)
    (a_is_word_to : PySem.W.nsIn K mainGlobals "is_word_to" = some (some (.ref f_is_word_to))) (l_is_word_to : K.lookup f_is_word_to = some ⟨oc_is_word_to, od_is_word_to, .func (PySem.W.fnOf "is_word_to" "is_word_to" (defArgs s_is_word_to) (defBody s_is_word_to) (defScope s_is_word_to) .none kV_is_word_to dc_is_word_to pm_is_word_to an_is_word_to cd_is_word_to ct_is_word_to), sl_is_word_to⟩) (c_is_word_to : PySem.W.codeIn K cd_is_word_to "is_word_to" = true) (k_is_word_to : PySem.W.keepIn K (.ref f_is_word_to) = true)
    (a_is_word : PySem.W.nsIn K mainGlobals "is_word" = some (some (.ref f_is_word))) (l_is_word : K.lookup f_is_word = some ⟨oc_is_word, od_is_word, .func (PySem.W.fnOf "is_word" "is_word" (defArgs s_is_word) (defBody s_is_word) (defScope s_is_word) .none kV_is_word dc_is_word pm_is_word an_is_word cd_is_word ct_is_word), sl_is_word⟩) (c_is_word : PySem.W.codeIn K cd_is_word "is_word" = true) (k_is_word : PySem.W.keepIn K (.ref f_is_word) = true)
    (a_need_word : PySem.W.nsIn K mainGlobals "need_word" = some (some (.ref f_need_word))) (l_need_word : K.lookup f_need_word = some ⟨oc_need_word, od_need_word, .func (PySem.W.fnOf "need_word" "need_word" (defArgs s_need_word) (defBody s_need_word) (defScope s_need_word) .none kV_need_word dc_need_word pm_need_word an_need_word cd_need_word ct_need_word), sl_need_word⟩) (c_need_word : PySem.W.codeIn K cd_need_word "need_word" = true) (k_need_word : PySem.W.keepIn K (.ref f_need_word) = true)
    (a_both_letters : PySem.W.nsIn K mainGlobals "both_letters" = some (some (.ref f_both_letters))) (l_both_letters : K.lookup f_both_letters = some ⟨oc_both_letters, od_both_letters, .func (PySem.W.fnOf "both_letters" "both_letters" (defArgs s_both_letters) (defBody s_both_letters) (defScope s_both_letters) .none kV_both_letters dc_both_letters pm_both_letters an_both_letters cd_both_letters ct_both_letters), sl_both_letters⟩) (c_both_letters : PySem.W.codeIn K cd_both_letters "both_letters" = true) (k_both_letters : PySem.W.keepIn K (.ref f_both_letters) = true)
    (a__need_many : PySem.W.nsIn K mainGlobals "_need_many" = some (some (.ref f__need_many))) (l__need_many : K.lookup f__need_many = some ⟨oc__need_many, od__need_many, .func (PySem.W.fnOf "_need_many" "_need_many" (defArgs s__need_many) (defBody s__need_many) (defScope s__need_many) .none kV__need_many dc__need_many pm__need_many an__need_many cd__need_many ct__need_many), sl__need_many⟩) (c__need_many : PySem.W.codeIn K cd__need_many "_need_many" = true) (k__need_many : PySem.W.keepIn K (.ref f__need_many) = true)
    (a_how_many : PySem.W.nsIn K mainGlobals "how_many" = some (some (.ref f_how_many))) (l_how_many : K.lookup f_how_many = some ⟨oc_how_many, od_how_many, .func (PySem.W.fnOf "how_many" "how_many" (defArgs s_how_many) (defBody s_how_many) (defScope s_how_many) .none kV_how_many dc_how_many pm_how_many an_how_many cd_how_many ct_how_many), sl_how_many⟩) (c_how_many : PySem.W.codeIn K cd_how_many "how_many" = true) (k_how_many : PySem.W.keepIn K (.ref f_how_many) = true)
    (a__with_letter : PySem.W.nsIn K mainGlobals "_with_letter" = some (some (.ref f__with_letter))) (l__with_letter : K.lookup f__with_letter = some ⟨oc__with_letter, od__with_letter, .func (PySem.W.fnOf "_with_letter" "_with_letter" (defArgs s__with_letter) (defBody s__with_letter) (defScope s__with_letter) .none kV__with_letter dc__with_letter pm__with_letter an__with_letter cd__with_letter ct__with_letter), sl__with_letter⟩) (c__with_letter : PySem.W.codeIn K cd__with_letter "_with_letter" = true) (k__with_letter : PySem.W.keepIn K (.ref f__with_letter) = true)
    (a__next_line : PySem.W.nsIn K mainGlobals "_next_line" = some (some (.ref f__next_line))) (l__next_line : K.lookup f__next_line = some ⟨oc__next_line, od__next_line, .func (PySem.W.fnOf "_next_line" "_next_line" (defArgs s__next_line) (defBody s__next_line) (defScope s__next_line) .none kV__next_line dc__next_line pm__next_line an__next_line cd__next_line ct__next_line), sl__next_line⟩) (c__next_line : PySem.W.codeIn K cd__next_line "_next_line" = true) (k__next_line : PySem.W.keepIn K (.ref f__next_line) = true)
    (a_laced : PySem.W.nsIn K mainGlobals "laced" = some (some (.ref f_laced))) (l_laced : K.lookup f_laced = some ⟨oc_laced, od_laced, .func (PySem.W.fnOf "laced" "laced" (defArgs s_laced) (defBody s_laced) (defScope s_laced) .none kV_laced dc_laced pm_laced an_laced cd_laced ct_laced), sl_laced⟩) (c_laced : PySem.W.codeIn K cd_laced "laced" = true) (k_laced : PySem.W.keepIn K (.ref f_laced) = true)
    (a_lacings : PySem.W.nsIn K mainGlobals "lacings" = some (some (.ref f_lacings))) (l_lacings : K.lookup f_lacings = some ⟨oc_lacings, od_lacings, .func (PySem.W.fnOf "lacings" "lacings" (defArgs s_lacings) (defBody s_lacings) (defScope s_lacings) .none kV_lacings dc_lacings pm_lacings an_lacings cd_lacings ct_lacings), sl_lacings⟩) (c_lacings : PySem.W.codeIn K cd_lacings "lacings" = true) (k_lacings : PySem.W.keepIn K (.ref f_lacings) = true)
    (a_Lways : PySem.W.nsIn K mainGlobals "_law_ways" = some (some (.ref f_Lways))) (l_Lways : K.lookup f_Lways = some ⟨oc_Lways, od_Lways, .func (PySem.W.fnOf "_law_ways" "_law_ways" (defArgs s__law_ways) (defBody s__law_ways) (defScope s__law_ways) .none kV_Lways dc_Lways pm_Lways an_Lways cd_Lways ct_Lways), sl_Lways⟩) (c_Lways : PySem.W.codeIn K cd_Lways "_law_ways" = true) (k_Lways : PySem.W.keepIn K (.ref f_Lways) = true)
    (a_Lpaired : PySem.W.nsIn K mainGlobals "_law_paired" = some (some (.ref f_Lpaired))) (l_Lpaired : K.lookup f_Lpaired = some ⟨oc_Lpaired, od_Lpaired, .func (PySem.W.fnOf "_law_paired" "_law_paired" (defArgs s__law_paired) (defBody s__law_paired) (defScope s__law_paired) .none kV_Lpaired dc_Lpaired pm_Lpaired an_Lpaired cd_Lpaired ct_Lpaired), sl_Lpaired⟩) (c_Lpaired : PySem.W.codeIn K cd_Lpaired "_law_paired" = true) (k_Lpaired : PySem.W.keepIn K (.ref f_Lpaired) = true)
    (a_Ldue : PySem.W.nsIn K mainGlobals "_law_due" = some (some (.ref f_Ldue))) (l_Ldue : K.lookup f_Ldue = some ⟨oc_Ldue, od_Ldue, .func (PySem.W.fnOf "_law_due" "_law_due" (defArgs s__law_due) (defBody s__law_due) (defScope s__law_due) .none kV_Ldue dc_Ldue pm_Ldue an_Ldue cd_Ldue ct_Ldue), sl_Ldue⟩) (c_Ldue : PySem.W.codeIn K cd_Ldue "_law_due" = true) (k_Ldue : PySem.W.keepIn K (.ref f_Ldue) = true)
    (a_Lright : PySem.W.nsIn K mainGlobals "_law_right" = some (some (.ref f_Lright))) (l_Lright : K.lookup f_Lright = some ⟨oc_Lright, od_Lright, .func (PySem.W.fnOf "_law_right" "_law_right" (defArgs s__law_right) (defBody s__law_right) (defScope s__law_right) .none kV_Lright dc_Lright pm_Lright an_Lright cd_Lright ct_Lright), sl_Lright⟩) (c_Lright : PySem.W.codeIn K cd_Lright "_law_right" = true) (k_Lright : PySem.W.keepIn K (.ref f_Lright) = true)
    (a_Ldraw : PySem.W.nsIn K mainGlobals "_law_draw" = some (some (.ref f_Ldraw))) (l_Ldraw : K.lookup f_Ldraw = some ⟨oc_Ldraw, od_Ldraw, .func (PySem.W.fnOf "_law_draw" "_law_draw" (defArgs s_draw) (defBody s_draw) (defScope s_draw) .none kV_Ldraw dc_Ldraw pm_Ldraw an_Ldraw cd_Ldraw ct_Ldraw), sl_Ldraw⟩) (c_Ldraw : PySem.W.codeIn K cd_Ldraw "_law_draw" = true) (k_Ldraw : PySem.W.keepIn K (.ref f_Ldraw) = true)
    (a_Lpot : PySem.W.nsIn K mainGlobals "_law_pot" = some (some (.ref f_Lpot))) (l_Lpot : K.lookup f_Lpot = some ⟨oc_Lpot, od_Lpot, .func (PySem.W.fnOf "_law_pot" "_law_pot" (defArgs s_pot) (defBody s_pot) (defScope s_pot) .none kV_Lpot dc_Lpot pm_Lpot an_Lpot cd_Lpot ct_Lpot), sl_Lpot⟩) (c_Lpot : PySem.W.codeIn K cd_Lpot "_law_pot" = true) (k_Lpot : PySem.W.keepIn K (.ref f_Lpot) = true)
    (a_law : PySem.W.nsIn K mainGlobals "law" = some (some (.ref f_law))) (l_law : K.lookup f_law = some ⟨oc_law, od_law, .func (PySem.W.fnOf "law" "law" (defArgs s_law) (defBody s_law) (defScope s_law) .none kV_law dc_law pm_law an_law cd_law ct_law), sl_law⟩) (c_law : PySem.W.codeIn K cd_law "law" = true) (k_law : PySem.W.keepIn K (.ref f_law) = true)
    (z_abs : PySem.W.nsIn K mainGlobals "abs" = some none)
    (z_all : PySem.W.nsIn K mainGlobals "all" = some none)
    (z_bool : PySem.W.nsIn K mainGlobals "bool" = some none)
    (z_divmod : PySem.W.nsIn K mainGlobals "divmod" = some none)
    (z_enumerate : PySem.W.nsIn K mainGlobals "enumerate" = some none)
    (z_int : PySem.W.nsIn K mainGlobals "int" = some none)
    (z_isinstance : PySem.W.nsIn K mainGlobals "isinstance" = some none)
    (z_len : PySem.W.nsIn K mainGlobals "len" = some none)
    (z_max : PySem.W.nsIn K mainGlobals "max" = some none)
    (z_min : PySem.W.nsIn K mainGlobals "min" = some none)
    (z_range : PySem.W.nsIn K mainGlobals "range" = some none)
    (z_repr : PySem.W.nsIn K mainGlobals "repr" = some none)
    (z_sorted : PySem.W.nsIn K mainGlobals "sorted" = some none)
    (z_sum : PySem.W.nsIn K mainGlobals "sum" = some none)
    (z_tuple : PySem.W.nsIn K mainGlobals "tuple" = some none)
    (z_zip : PySem.W.nsIn K mainGlobals "zip" = some none)
    (v_MOST_COLUMNS : PySem.W.nsIn K mainGlobals "MOST_COLUMNS" = some (some (.int 3 t_MOST_COLUMNS)))
    (v_MOST_LACINGS : PySem.W.nsIn K mainGlobals "MOST_LACINGS" = some (some (.int 400 t_MOST_LACINGS)))
    (v_MOST_LETTERS : PySem.W.nsIn K mainGlobals "MOST_LETTERS" = some (some (.int 8 t_MOST_LETTERS)))
    (v_MOST_POWER : PySem.W.nsIn K mainGlobals "MOST_POWER" = some (some (.int 8 t_MOST_POWER)))
    : ∃ fd : FuncData, (∀ (s : Shared) (v : Value), BindsTo s fd ⟨[v], []⟩ [("_law_script", v)]) ∧ ∀ base : Heap, K.In base → base.Ns mainGlobals mg → FnG l.prog w K mg base CX0 10 fa fd ["_law_script"] (spL K) := by
  have e := hfa.symm.trans (PySem.W.mg_of X G a_law)
  cases e
  have TX : Txt K mg f_Ldraw f_is_integer f_is_count f_is_count_to f_need_columns f_is_letter_to f_is_word f_is_word_to f_need_word f_both_letters f_how_many f__need_many f_lacings f_laced f__next_line f__with_letter f_Lways f_Lpaired f_Ldue f_Lright := ⟨PySem.W.mg_of X G a_Ldraw, k_Ldraw, PySem.W.mg_of X G a_is_integer, k_is_integer, PySem.W.mg_of X G a_is_count, k_is_count, PySem.W.mg_of X G a_is_count_to, k_is_count_to, PySem.W.mg_of X G a_need_columns, k_need_columns, PySem.W.mg_of X G a_is_letter_to, k_is_letter_to, PySem.W.mg_of X G a_is_word, k_is_word, PySem.W.mg_of X G a_is_word_to, k_is_word_to, PySem.W.mg_of X G a_need_word, k_need_word, PySem.W.mg_of X G a_both_letters, k_both_letters, PySem.W.mg_of X G a_how_many, k_how_many, PySem.W.mg_of X G a__need_many, k__need_many, PySem.W.mg_of X G a_lacings, k_lacings, PySem.W.mg_of X G a_laced, k_laced, PySem.W.mg_of X G a__next_line, k__next_line, PySem.W.mg_of X G a__with_letter, k__with_letter, PySem.W.mg_of X G a_Lways, k_Lways, PySem.W.mg_of X G a_Lpaired, k_Lpaired, PySem.W.mg_of X G a_Ldue, k_Ldue, PySem.W.mg_of X G a_Lright, k_Lright, PySem.W.mg_none_of X G z_all, PySem.W.mg_none_of X G z_bool, PySem.W.mg_none_of X G z_enumerate, PySem.W.mg_none_of X G z_int, PySem.W.mg_none_of X G z_isinstance, PySem.W.mg_none_of X G z_len, PySem.W.mg_none_of X G z_min, PySem.W.mg_none_of X G z_range, PySem.W.mg_none_of X G z_repr, PySem.W.mg_none_of X G z_sorted, PySem.W.mg_none_of X G z_sum, PySem.W.mg_none_of X G z_tuple, PySem.W.mg_none_of X G z_zip, ⟨_, PySem.W.mg_of X G v_MOST_COLUMNS⟩, ⟨_, PySem.W.mg_of X G v_MOST_LACINGS⟩, ⟨_, PySem.W.mg_of X G v_MOST_LETTERS⟩, ⟨_, PySem.W.mg_of X G v_MOST_POWER⟩⟩
  have F_is_integer := fun_mk (st := s_is_integer) l_is_integer c_is_integer k_is_integer
  have B_is_integer := F_is_integer.binds (ps := ["value"]) fun _ _ _ _ _ _ us hl => match us, hl with | [_], _ => rfl
  have F_is_count := fun_mk (st := s_is_count) l_is_count c_is_count k_is_count
  have B_is_count := F_is_count.binds (ps := ["value"]) fun _ _ _ _ _ _ us hl => match us, hl with | [_], _ => rfl
  have F_is_count_to := fun_mk (st := s_is_count_to) l_is_count_to c_is_count_to k_is_count_to
  have B_is_count_to := F_is_count_to.binds (ps := ["value", "most"]) fun _ _ _ _ _ _ us hl => match us, hl with | [_, _], _ => rfl
  have F_need_columns := fun_mk (st := s_need_columns) l_need_columns c_need_columns k_need_columns
  have B_need_columns := F_need_columns.binds (ps := ["columns"]) fun _ _ _ _ _ _ us hl => match us, hl with | [_], _ => rfl
  have F_is_letter_to := fun_mk (st := s_is_letter_to) l_is_letter_to c_is_letter_to k_is_letter_to
  have B_is_letter_to := F_is_letter_to.binds (ps := ["columns", "value", "most"]) fun _ _ _ _ _ _ us hl => match us, hl with | [_, _, _], _ => rfl
  have F_is_word_to := fun_mk (st := s_is_word_to) l_is_word_to c_is_word_to k_is_word_to
  have B_is_word_to := F_is_word_to.binds (ps := ["columns", "value", "most"]) fun _ _ _ _ _ _ us hl => match us, hl with | [_, _, _], _ => rfl
  have F_is_word := fun_mk (st := s_is_word) l_is_word c_is_word k_is_word
  have B_is_word := F_is_word.binds (ps := ["columns", "value"]) fun _ _ _ _ _ _ us hl => match us, hl with | [_, _], _ => rfl
  have F_need_word := fun_mk (st := s_need_word) l_need_word c_need_word k_need_word
  have B_need_word := F_need_word.binds (ps := ["columns", "word"]) fun _ _ _ _ _ _ us hl => match us, hl with | [_, _], _ => rfl
  have F_both_letters := fun_mk (st := s_both_letters) l_both_letters c_both_letters k_both_letters
  have B_both_letters := F_both_letters.binds (ps := ["letter", "other"]) fun _ _ _ _ _ _ us hl => match us, hl with | [_, _], _ => rfl
  have F__need_many := fun_mk (st := s__need_many) l__need_many c__need_many k__need_many
  have B__need_many := F__need_many.binds (ps := ["many"]) fun _ _ _ _ _ _ us hl => match us, hl with | [_], _ => rfl
  have F_how_many := fun_mk (st := s_how_many) l_how_many c_how_many k_how_many
  have B_how_many := F_how_many.binds (ps := ["many", "other"]) fun _ _ _ _ _ _ us hl => match us, hl with | [_, _], _ => rfl
  have F__with_letter := fun_mk (st := s__with_letter) l__with_letter c__with_letter k__with_letter
  have B__with_letter := F__with_letter.binds (ps := ["ways_and_letters"]) fun _ _ _ _ _ _ us hl => match us, hl with | [_], _ => rfl
  have F__next_line := fun_mk (st := s__next_line) l__next_line c__next_line k__next_line
  have B__next_line := F__next_line.binds (ps := ["line", "letter", "other"]) fun _ _ _ _ _ _ us hl => match us, hl with | [_, _, _], _ => rfl
  have F_laced := fun_mk (st := s_laced) l_laced c_laced k_laced
  have B_laced := F_laced.binds (ps := ["word", "other"]) fun _ _ _ _ _ _ us hl => match us, hl with | [_, _], _ => rfl
  have F_lacings := fun_mk (st := s_lacings) l_lacings c_lacings k_lacings
  have B_lacings := F_lacings.binds (ps := ["columns", "word", "other"]) fun _ _ _ _ _ _ us hl => match us, hl with | [_, _, _], _ => rfl
  have F_Lways := fun_mk (st := s__law_ways) l_Lways c_Lways k_Lways
  have B_Lways := F_Lways.binds (ps := ["_law_number", "_law_many"]) fun _ _ _ _ _ _ us hl => match us, hl with | [_, _], _ => rfl
  have F_Lpaired := fun_mk (st := s__law_paired) l_Lpaired c_Lpaired k_Lpaired
  have B_Lpaired := F_Lpaired.binds (ps := ["_law_one", "_law_other", "_law_pairs"]) fun _ _ _ _ _ _ us hl => match us, hl with | [_, _, _], _ => rfl
  have F_Ldue := fun_mk (st := s__law_due) l_Ldue c_Ldue k_Ldue
  have B_Ldue := F_Ldue.binds (ps := ["_law_one", "_law_other"]) fun _ _ _ _ _ _ us hl => match us, hl with | [_, _], _ => rfl
  have F_Lright := fun_mk (st := s__law_right) l_Lright c_Lright k_Lright
  have B_Lright := F_Lright.binds (ps := ["_law_pot_here"]) fun _ _ _ _ _ _ us hl => match us, hl with | [_], _ => rfl
  have F_Ldraw := fun_mk (st := s_draw) l_Ldraw c_Ldraw k_Ldraw
  have B_Ldraw := F_Ldraw.binds (ps := ["_law_pot_here", "_law_many"]) fun _ _ _ _ _ _ us hl => match us, hl with | [_, _], _ => rfl
  have F_Lpot := fun_mk (st := s_pot) l_Lpot c_Lpot k_Lpot
  have B_Lpot := F_Lpot.binds (ps := ["_law_script", "_law_k"]) fun _ _ _ _ _ _ us hl => match us, hl with | [_, _], _ => rfl
  have F_law := fun_mk (st := s_law) l_law c_law k_law
  have BK_how_many : KBind K _ ["many", "other"] ["other", "many"] [1, 0] := fun s us _ hl => match us, hl with | [_, _], _ => .of_eq (fd := PySem.W.fnOf "how_many" "how_many" (defArgs s_how_many) (defBody s_how_many) (defScope s_how_many) .none kV_how_many dc_how_many pm_how_many an_how_many cd_how_many ct_how_many) rfl
  refine ⟨PySem.W.fnOf "law" "law" (defArgs s_law) (defBody s_law) (defScope s_law) .none kV_law dc_law pm_law an_law cd_law ct_law, fun s v => .of_eq rfl, fun base _ _ => ?_⟩
  have G_Ldraw := g_draw (P := l.prog) (w := w) (base := base) F_Ldraw (PySem.W.mg_none_of X G z_divmod) (PySem.W.mg_none_of X G z_int)
  have G_Lpot := g_pot (P := l.prog) (w := w) (base := base) F_Lpot (PySem.W.mg_none_of X G z_abs) (PySem.W.mg_none_of X G z_len) (PySem.W.mg_none_of X G z_max) (PySem.W.mg_none_of X G z_int)
  have G_is_integer := g_is_integer (P := l.prog) (w := w) (base := base) F_is_integer TX  
  have G_is_count := g_is_count (P := l.prog) (w := w) (base := base) F_is_count TX G_is_integer B_is_integer
  have G_is_count_to := g_is_count_to (P := l.prog) (w := w) (base := base) F_is_count_to TX G_is_count B_is_count
  have G_need_columns := g_need_columns (P := l.prog) (w := w) (base := base) F_need_columns TX G_is_count_to B_is_count_to
  have G_is_letter_to := g_is_letter_to (P := l.prog) (w := w) (base := base) F_is_letter_to TX G_is_count_to B_is_count_to
  have G_is_word_to := g_is_word_to (P := l.prog) (w := w) (base := base) F_is_word_to TX G_is_letter_to B_is_letter_to
  have G_is_word := g_is_word (P := l.prog) (w := w) (base := base) F_is_word TX G_is_word_to G_need_columns B_is_word_to B_need_columns
  have G_need_word := g_need_word (P := l.prog) (w := w) (base := base) F_need_word TX G_is_word B_is_word
  have G_both_letters := g_both_letters (P := l.prog) (w := w) (base := base) F_both_letters TX  
  have G__need_many := g__need_many (P := l.prog) (w := w) (base := base) F__need_many TX G_is_count_to B_is_count_to
  have G_how_many := g_how_many (P := l.prog) (w := w) (base := base) F_how_many TX G__need_many B__need_many
  have G__with_letter := g__with_letter (P := l.prog) (w := w) (base := base) F__with_letter TX  
  have G__next_line := g__next_line (P := l.prog) (w := w) (base := base) F__next_line TX G__with_letter G_both_letters B__with_letter B_both_letters
  have G_laced := g_laced (P := l.prog) (w := w) (base := base) F_laced TX G__next_line B__next_line
  have G_lacings := g_lacings (P := l.prog) (w := w) (base := base) F_lacings TX G_how_many G_laced G_need_word B_how_many B_laced B_need_word
  have G_Lways := g__law_ways (P := l.prog) (w := w) (base := base) F_Lways TX  
  have G_Lpaired := g__law_paired (P := l.prog) (w := w) (base := base) F_Lpaired TX G_Lways B_Lways
  have G_Ldue := g__law_due (P := l.prog) (w := w) (base := base) F_Ldue TX G_Lpaired B_Lpaired
  have G_Lright := g__law_right (P := l.prog) (w := w) (base := base) F_Lright TX G_Ldraw G_Ldue G_Lpaired G_how_many G_lacings B_Ldraw B_Ldue B_Lpaired B_how_many BK_how_many B_lacings
  exact g_law F_law (PySem.W.mg_of X G a_Lpot) k_Lpot (PySem.W.mg_of X G a_Lright) k_Lright G_Lpot B_Lpot G_Lright B_Lright
end Pd

open PySem PySem.W PyProof.Rows in
set_option maxHeartbeats 0 in
theorem PySem.Challenge.cw_aheadsums_k26_how_many_lacings_holds : PySem.Challenge.rw_aheadsums_k26_how_many_lacings.Holds := by
  w_on; o_law; k_head; (case hw => w_witness2)
  k_fill
  refine Pd.walkG (n := 63) (k := 10) (x := "_law_script") (l := PySem.Challenge.rw_aheadsums_k26_how_many_lacings) (sp := fun w => Pd.spL _) rfl (by decide) rfl ⟨rfl, by decide, by decide⟩ (fun w h Y => PySem.W.kIn_of Y) ?F fun w H a ns _ _ hS => ⟨a, ns, rfl, hS, fun _ => rfl⟩
  case F =>
    intro w mg fa h KX G hmg
    refine' Pd.all_mk KX G hmg ?a_is_integer ?l_is_integer ?c_is_integer ?k_is_integer ?a_is_count ?l_is_count ?c_is_count ?k_is_count ?a_is_count_to ?l_is_count_to ?c_is_count_to ?k_is_count_to ?a_need_columns ?l_need_columns ?c_need_columns ?k_need_columns ?a_is_letter_to ?l_is_letter_to ?c_is_letter_to ?k_is_letter_to ?a_is_word_to ?l_is_word_to ?c_is_word_to ?k_is_word_to ?a_is_word ?l_is_word ?c_is_word ?k_is_word ?a_need_word ?l_need_word ?c_need_word ?k_need_word ?a_both_letters ?l_both_letters ?c_both_letters ?k_both_letters ?a__need_many ?l__need_many ?c__need_many ?k__need_many ?a_how_many ?l_how_many ?c_how_many ?k_how_many ?a__with_letter ?l__with_letter ?c__with_letter ?k__with_letter ?a__next_line ?l__next_line ?c__next_line ?k__next_line ?a_laced ?l_laced ?c_laced ?k_laced ?a_lacings ?l_lacings ?c_lacings ?k_lacings ?a_Lways ?l_Lways ?c_Lways ?k_Lways ?a_Lpaired ?l_Lpaired ?c_Lpaired ?k_Lpaired ?a_Ldue ?l_Ldue ?c_Ldue ?k_Ldue ?a_Lright ?l_Lright ?c_Lright ?k_Lright ?a_Ldraw ?l_Ldraw ?c_Ldraw ?k_Ldraw ?a_Lpot ?l_Lpot ?c_Lpot ?k_Lpot ?a_law ?l_law ?c_law ?k_law ?z_abs ?z_all ?z_bool ?z_divmod ?z_enumerate ?z_int ?z_isinstance ?z_len ?z_max ?z_min ?z_range ?z_repr ?z_sorted ?z_sum ?z_tuple ?z_zip ?v_MOST_COLUMNS ?v_MOST_LACINGS ?v_MOST_LETTERS ?v_MOST_POWER
    (case a_is_integer => k_is)
    (case l_is_integer => k_is)
    (case c_is_integer => k_is)
    (case k_is_integer => k_is)
    (case a_is_count => k_is)
    (case l_is_count => k_is)
    (case c_is_count => k_is)
    (case k_is_count => k_is)
    (case a_is_count_to => k_is)
    (case l_is_count_to => k_is)
    (case c_is_count_to => k_is)
    (case k_is_count_to => k_is)
    (case a_need_columns => k_is)
    (case l_need_columns => k_is)
    (case c_need_columns => k_is)
    (case k_need_columns => k_is)
    (case a_is_letter_to => k_is)
    (case l_is_letter_to => k_is)
    (case c_is_letter_to => k_is)
    (case k_is_letter_to => k_is)
    (case a_is_word_to => k_is)
    (case l_is_word_to => k_is)
    (case c_is_word_to => k_is)
    (case k_is_word_to => k_is)
    (case a_is_word => k_is)
    (case l_is_word => k_is)
    (case c_is_word => k_is)
    (case k_is_word => k_is)
    (case a_need_word => k_is)
    (case l_need_word => k_is)
    (case c_need_word => k_is)
    (case k_need_word => k_is)
    (case a_both_letters => k_is)
    (case l_both_letters => k_is)
    (case c_both_letters => k_is)
    (case k_both_letters => k_is)
    (case a__need_many => k_is)
    (case l__need_many => k_is)
    (case c__need_many => k_is)
    (case k__need_many => k_is)
    (case a_how_many => k_is)
    (case l_how_many => k_is)
    (case c_how_many => k_is)
    (case k_how_many => k_is)
    (case a__with_letter => k_is)
    (case l__with_letter => k_is)
    (case c__with_letter => k_is)
    (case k__with_letter => k_is)
    (case a__next_line => k_is)
    (case l__next_line => k_is)
    (case c__next_line => k_is)
    (case k__next_line => k_is)
    (case a_laced => k_is)
    (case l_laced => k_is)
    (case c_laced => k_is)
    (case k_laced => k_is)
    (case a_lacings => k_is)
    (case l_lacings => k_is)
    (case c_lacings => k_is)
    (case k_lacings => k_is)
    (case a_Lways => k_is)
    (case l_Lways => k_is)
    (case c_Lways => k_is)
    (case k_Lways => k_is)
    (case a_Lpaired => k_is)
    (case l_Lpaired => k_is)
    (case c_Lpaired => k_is)
    (case k_Lpaired => k_is)
    (case a_Ldue => k_is)
    (case l_Ldue => k_is)
    (case c_Ldue => k_is)
    (case k_Ldue => k_is)
    (case a_Lright => k_is)
    (case l_Lright => k_is)
    (case c_Lright => k_is)
    (case k_Lright => k_is)
    (case a_Ldraw => k_is)
    (case l_Ldraw => k_is)
    (case c_Ldraw => k_is)
    (case k_Ldraw => k_is)
    (case a_Lpot => k_is)
    (case l_Lpot => k_is)
    (case c_Lpot => k_is)
    (case k_Lpot => k_is)
    (case a_law => k_is)
    (case l_law => k_is)
    (case c_law => k_is)
    (case k_law => k_is)
    (case z_abs => k_is)
    (case z_all => k_is)
    (case z_bool => k_is)
    (case z_divmod => k_is)
    (case z_enumerate => k_is)
    (case z_int => k_is)
    (case z_isinstance => k_is)
    (case z_len => k_is)
    (case z_max => k_is)
    (case z_min => k_is)
    (case z_range => k_is)
    (case z_repr => k_is)
    (case z_sorted => k_is)
    (case z_sum => k_is)
    (case z_tuple => k_is)
    (case z_zip => k_is)
    (case v_MOST_COLUMNS => k_is)
    (case v_MOST_LACINGS => k_is)
    (case v_MOST_LETTERS => k_is)
    (case v_MOST_POWER => k_is)
#print axioms PySem.Challenge.cw_aheadsums_k26_how_many_lacings_holds

